import PyProof.Rows.All
import Wide.All
import OpenK.AllK
import Wide.FinOn
import HandS.ForMost
import HandS.Wide
import HandS.Codes
import HandS.Walk
import HandS.Zip
import HandS.IsInst
import HandS.TupSets
import KE.GoesMore
import KE.GoesEnum
import PyProof.ListStr
import HandS.SetKeys
import HandS.Conv
import PyProof.DictMoreH
import HandS.Defaults
import HandS.MakeKwOnly
import HandS.Exc
import HandS.TryOnly
import HandS.TryMany
import HandS.ExcField
import HandS.ExcInit
import HandS.WordsExc
import HandS.Lambda
import HandS.EndTab
import HandS.ExcOwn
import HandS.DictComp
import HandS.Deep
import HandS.EndOwn
import KE.KNestM
import HandS.Star
import HandS.TupLe
import HandS.Dict
import HandS.WordsDict
import HandS.OwnEq
import PyProof.InstNe
import HandS.MapJoin
import HandS.SortOrd
import HandS.TupAny
import PySem.Challenge.RW_wardweb_k24_choices_of_trees
set_option Elab.async false
set_option linter.all false
set_option maxRecDepth 100000
namespace Wb
open PySem PySem.Spec PyProof.Rows L2
def topS (i : Nat) : Stmt := PySem.Challenge.pw_wardweb_k24_choices_of_trees.main.body.getD i (.Pass ⟨0, 0, 0, 0⟩)
abbrev sBox : Stmt := topS 28
abbrev sTake : Stmt := topS 29
abbrev sOne : Stmt := topS 30
/-! ### the drawing box -/
def bxO (q : Addr) (i r k : Int) : HO := .lst [.ref q, .int i, .int r, .int k]
def Bx (H : Hp) (b q : Addr) : Prop := ∃ (ns : List Int) (i r k : Int), H b = some (bxO q i r k) ∧ H q = some (.lst (ns.map V.int)) ∧ 0 ≤ i ∧ 0 ≤ r ∧ 0 ≤ k ∧ k < 2147483563
/-- all but b stands as it stood -/
def Kp (b : Addr) (H H' : Hp) : Prop := ∀ c, c ≠ b → H' c = H c
theorem box_ne {H : Hp} {b q : Addr} {ns : List Int} {i r k : Int} (hb : H b = some (bxO q i r k)) (hq : H q = some (.lst (ns.map V.int))) : q ≠ b := fun e => by
  subst e
  rw [hb] at hq
  injection hq with hq
  injection hq with hq
  cases ns with
  | nil => cases hq
  | cons n r => cases hq
section
variable {P : Program} {w : World} {K : PySem.W.Frag} {mg : Str → Option Value} {base : Heap}
def spTake : Sp := fun vs H Q _ => ∃ (b q : Addr) (many : Int), vs = [.ref b, .int many] ∧ Bx H b q ∧ 0 < many ∧ many < 2 ^ 100 ∧ ∀ v H', 0 ≤ v → v < many → Bx H' b q → Kp b H H' → Q (.int v) H'
theorem scT : FnScope ["_law_box_here", "_law_many", "_law_cell", "_law_got", "_law_seed"] ["_law_box_here", "_law_many"] (defScope sTake) := ⟨rfl, rfl, rfl, by decide +kernel, rfl, by decide +kernel, by decide +kernel⟩
theorem ok_take {f : Addr} {fd : FuncData} (F : Fun K "_law_take" "_law_take" sTake f fd) (ml : mg "len" = none) : FnOk P w K mg base CX0 1 f fd ["_law_box_here", "_law_many"] spTake := by
  refine F.ok scT (fun vs H Q E h => ?_) (fun cdv A outer s H vs Q E hr h => ?_)
  · obtain ⟨b, q, many, rfl, _⟩ := h
    rfl
  · obtain ⟨b, q, many, rfl, ⟨ns, i, r, k, hb, hq, hi, hr0, hk, hk2⟩, hm, hm2, K1⟩ := h
    refine ⟨_, C8.pss_cut (ps_if (PW.pt (pw_and (pt_cmpR op_eq (pe_ix ix_list (pv 0) pe_int (fun _ _ => rfl)) pe_int (nomark _)) (pw_and1 (pt_cmpR op_lt (pe_ix ix_list (pv 0) pe_int (fun _ _ => rfl)) (pe_callB call_len_seq (by rfl) ml PySem.boot_len (pa_cons (pe_ix ix_list (pv 0) pe_int (fun _ _ => rfl)) pa_nil)) (nomark _)))))
        (pss_cons (ps_set (i := 2) scT.nd rfl (.inl rfl) (pe_ix ix_list (pe_ix ix_list (pv 0) pe_int (fun _ _ => rfl)) (pe_ix ix_list (pv 0) pe_int (fun _ _ => rfl)) (fun _ _ => rfl)))
        (pss_cons (ps_asg (pe_op op_add (pe_ix ix_list (pv 0) pe_int (fun _ _ => rfl)) pe_int) (pg_sub (pv 0) pe_int set_list))
        (pss_one (ps_if (pt_cmpR op_ge (pv 2) (pe_op op_pow pe_int pe_int) (nomark _))
          (pss_one (ps_asg (pv 2) (pg_sub (pv 0) pe_int set_list)))
          (pss_one (ps_asg (pe_op op_mod (pe_op op_add (pe_op op_add (pe_op op_mul (pe_ix ix_list (pv 0) pe_int (fun _ _ => rfl)) pe_int) (pe_op op_mul (pe_op op_mod (pv 2) pe_int) pe_int)) (pe_ix ix_list (pv 0) pe_int (fun _ _ => rfl))) pe_int) (pg_sub (pv 0) pe_int set_list))))))) pss_nil)
      (pss_cons (ps_if (pt_cmpR op_gt (pe_ix ix_list (pv 0) pe_int (fun _ _ => rfl)) pe_int (nomark _))
        (pss_cons (ps_set (i := 3) scT.nd rfl (.inl rfl) (pe_op op_mod (pe_ix ix_list (pv 0) pe_int (fun _ _ => rfl)) (pv 1)))
        (pss_cons (ps_asg (pe_op op_fdivW (pe_ix ix_list (pv 0) pe_int (fun _ _ => rfl)) (pv 1)) (pg_sub (pv 0) pe_int set_list))
        (pss_one (ps_ret (pv 3))))) pss_nil)
      (pss_cons (ps_set (i := 4) scT.nd rfl (.inl rfl) (pe_ix ix_list (pv 0) pe_int (fun _ _ => rfl)))
      (pss_cons (ps_asg (pe_op op_mod (pe_op op_add (pe_op op_add (pe_op op_mul (pv 4) (pv 4)) (pe_op op_mul (pv 4) pe_int)) pe_int) pe_int) (pg_sub (pv 0) pe_int set_list))
      (pss_one (ps_ret (pe_op op_mod (pe_op op_add (pe_op op_fdiv (pe_ix ix_list (pv 0) pe_int (fun _ _ => rfl)) pe_int) (pe_op op_mul (pe_op op_mod (pe_ix ix_list (pv 0) pe_int (fun _ _ => rfl)) pe_int) pe_int)) (pv 1))))))), ?_⟩
    refine ⟨fun σ' H' => ∃ y2 y3 y4 i' r' k', σ' = [some (.ref b), some (.int many), y2, y3, y4] ∧ H' = upd H b (bxO q i' r' k') ∧ 0 ≤ i' ∧ 0 ≤ r' ∧ 0 ≤ k' ∧ k' < 2147483563, ?_, ?_⟩
    · have own : H = upd H b (bxO q i r k) := by
        funext c
        by_cases e : c = b
        · rw [e, upd_same, hb]
        · rw [upd_ne e]
      refine ⟨_, rfl, b, _, 2, .int r, rfl, rfl, SqL.of hb, atI_nat (j := 2) rfl, rfl, _, rfl, ?_⟩
      refine ite2 (fun e1 => ?_) (fun e1 => ?_)
      · refine ⟨_, rfl, b, _, 1, .int i, rfl, rfl, SqL.of hb, atI_nat (j := 1) rfl, _, rfl, b, _, 0, .ref q, rfl, rfl, SqL.of hb, atI_nat (j := 0) rfl, q, _, rfl, .inl (SqL.of hq), _, _, rfl, rfl, _, rfl, ?_⟩
        refine ite2 (fun e2 => ?_) (fun e2 => ?_)
        · have hlt : i < ((ns.map V.int).length : Int) := of_decide_eq_true e2
          have hj : i.toNat < ns.length := by
            rw [List.length_map] at hlt
            omega
          have gi : atI (ns.map V.int) i = some (.int ns[i.toNat]) := at_of (j := i.toNat) (by omega) (by
            rw [List.getElem?_map, List.getElem?_eq_getElem hj]
            rfl)
          have nqb : q ≠ b := box_ne hb hq
          -- cell = box[0][box[1]]
          refine ⟨_, rfl, b, _, 0, .ref q, rfl, rfl, SqL.of hb, atI_nat (j := 0) rfl, _, rfl, b, _, 1, .int i, rfl, rfl, SqL.of hb, atI_nat (j := 1) rfl, q, _, i, _, rfl, rfl, SqL.of hq, gi, ?_⟩
          -- box[1] = box[1] + 1
          refine ⟨_, rfl, b, _, 1, .int i, rfl, rfl, SqL.of hb, atI_nat (j := 1) rfl, _, _, rfl, rfl, _, rfl, b, _, 1, 1, rfl, rfl, hb, rfl, ?_⟩
          refine ⟨_, rfl, 10, 18, rfl, rfl, ⟨by decide, by decide, by decide⟩, _, _, rfl, rfl, _, rfl, ?_⟩
          refine ite2 (fun e3 => ?_) (fun e3 => ?_)
          · have h3 : (10 : Int) ^ (18 : Int).toNat ≤ ns[i.toNat] := of_decide_eq_true e3
            refine ⟨_, rfl, _, rfl, b, _, 2, 2, rfl, rfl, upd_same, rfl, ?_⟩
            refine ⟨_, _, _, i + 1, ns[i.toNat], k, rfl, ?_, by omega, ?_, hk, hk2⟩
            · rw [upd_upd]
              rfl
            · have : (0 : Int) ≤ (10 : Int) ^ (18 : Int).toNat := by decide
              omega
          · refine ⟨_, rfl, b, _, 3, .int k, rfl, rfl, SqL.of upd_same, atI_nat (j := 3) rfl, k, 40692, rfl, rfl, .inr ⟨by decide, by decide⟩, _, rfl, _, 2147483563, rfl, rfl, (by show (0 : Int) < 2147483563; decide), _, 53, rfl, rfl, .inr ⟨by decide, by decide⟩, _, _, rfl, rfl, _, rfl, b, _, 1, .int (i + 1), rfl, rfl, SqL.of upd_same, atI_nat (j := 1) rfl, _, _, rfl, rfl, _, 2147483563, rfl, rfl, (by show (0 : Int) < 2147483563; decide), ?_⟩
            refine ⟨_, rfl, b, _, 3, 3, rfl, rfl, upd_same, rfl, ?_⟩
            refine ⟨_, _, _, i + 1, r, _, rfl, by rw [upd_upd]; rfl, by omega, hr0, Int.emod_nonneg _ (by decide), Int.emod_lt_of_pos _ (by decide)⟩
        · exact ⟨_, _, _, i, r, k, rfl, own, hi, hr0, hk, hk2⟩
      · exact ⟨_, _, _, i, r, k, rfl, own, hi, hr0, hk, hk2⟩
    · rintro σ' H' ⟨y2, y3, y4, i', r', k', rfl, rfl, hi', hr', hk', hk2'⟩
      have nqb : q ≠ b := box_ne hb hq
      have hq' : ∀ o, (upd H b o) q = some (.lst (ns.map V.int)) := fun o => by
        rw [upd_ne nqb]
        exact hq
      have kp : ∀ o, Kp b H (upd H b o) := fun o c hc => upd_ne hc
      refine ⟨_, rfl, b, _, 2, .int r', rfl, rfl, SqL.of upd_same, atI_nat (j := 2) rfl, _, _, rfl, rfl, _, rfl, ?_⟩
      refine ite2 (fun e1 => ?_) (fun e1 => ?_)
      · refine ⟨_, rfl, b, _, 2, .int r', rfl, rfl, SqL.of upd_same, atI_nat (j := 2) rfl, _, rfl, _, _, rfl, rfl, hm, ?_⟩
        refine ⟨_, rfl, b, _, 2, .int r', rfl, rfl, SqL.of upd_same, atI_nat (j := 2) rfl, _, rfl, _, _, rfl, rfl, wide_div (b := 100) hm (by omega) (by decide) (by decide), ?_⟩
        refine ⟨_, rfl, b, _, 2, 2, rfl, rfl, upd_same, rfl, _, rfl, ?_⟩
        rw [upd_upd]
        exact K1 _ _ (Int.emod_nonneg _ (by omega)) (Int.emod_lt_of_pos _ hm) ⟨ns, i', r' / many, k', upd_same, hq' _, hi', Int.ediv_nonneg hr' (by omega), hk', hk2'⟩ (kp _)
      · refine ⟨_, rfl, b, _, 3, .int k', rfl, rfl, SqL.of upd_same, atI_nat (j := 3) rfl, ?_⟩
        have hb1 : (-(2 ^ 64) < k' ∧ k' < 2 ^ 64) := ⟨by omega, by omega⟩
        refine ⟨_, rfl, _, rfl, _, _, rfl, rfl, .inl hb1, _, rfl, _, 39373, rfl, rfl, .inl hb1, _, _, rfl, rfl, _, 90001, rfl, rfl, _, 2147483563, rfl, rfl, (by show (0 : Int) < 2147483563; decide), ?_⟩
        refine ⟨_, rfl, b, _, 3, 3, rfl, rfl, upd_same, rfl, ?_⟩
        have z1 := Int.emod_nonneg (k' * k' + k' * 39373 + 90001) (show (2147483563 : Int) ≠ 0 by decide)
        have z2 := Int.emod_lt_of_pos (k' * k' + k' * 39373 + 90001) (show (0 : Int) < 2147483563 by decide)
        refine ⟨_, rfl, b, _, 3, _, rfl, rfl, SqL.of upd_same, atI_nat (j := 3) rfl, _, 59, rfl, rfl, ⟨by decide, by decide⟩, _, rfl, b, _, 3, _, rfl, rfl, SqL.of upd_same, atI_nat (j := 3) rfl, _, 8117, rfl, rfl, (by show (0 : Int) < 8117; decide), _, 211, rfl, rfl, .inr ⟨by decide, by decide⟩, _, _, rfl, rfl, _, rfl, _, _, rfl, rfl, hm, ?_⟩
        rw [upd_upd]
        exact K1 _ _ (Int.emod_nonneg _ (by omega)) (Int.emod_lt_of_pos _ hm) ⟨ns, i', r', _, upd_same, hq' _, hi', hr', z1, z2⟩ (kp _)
end
end Wb
namespace Wb
open PySem PySem.Spec PyProof.Rows L2
abbrev sHue : Stmt := topS 34
theorem same_upd {H : Hp} {p : Addr} {o : HO} (h : H p = none) : Same H (upd H p o) := fun b x e => by
  rw [upd_ne (ne_of_none e h)]
  exact e
def Xt (b : Addr) (H H' : Hp) : Prop := ∀ c o, c ≠ b → H c = some o → H' c = some o
theorem Xt.refl (b : Addr) (H : Hp) : Xt b H H := fun _ _ _ h => h
theorem Xt.trans {b : Addr} {H H1 H2 : Hp} (x : Xt b H H1) (y : Xt b H1 H2) : Xt b H H2 := fun c o hc h => y c o hc (x c o hc h)
theorem Xt.new {b : Addr} {H H1 : Hp} {p : Addr} {o : HO} (x : Xt b H H1) (h : H1 p = none) : Xt b H (upd H1 p o) := fun c u hc e => by
  have q := x c u hc e
  rw [upd_ne (ne_of_none q h)]
  exact q
theorem Kp.xt {b : Addr} {H H' : Hp} (x : Kp b H H') : Xt b H H' := fun c o hc h => by
  rw [x c hc]
  exact h
theorem Same.xt {b : Addr} {H H' : Hp} (x : Same H H') : Xt b H H' := fun c o _ h => x c o h
theorem Bx.some {H : Hp} {b q : Addr} (x : Bx H b q) : ∃ o, H b = some o := by
  obtain ⟨ns, i, r, k, hb, _⟩ := x
  exact ⟨_, hb⟩
theorem Bx.new {H : Hp} {b q p : Addr} {o : HO} (x : Bx H b q) (h : H p = none) : Bx (upd H p o) b q := by
  obtain ⟨ns, i, r, k, hb, hq, z⟩ := x
  exact ⟨ns, i, r, k, by rw [upd_ne (ne_of_none hb h)]; exact hb, by rw [upd_ne (ne_of_none hq h)]; exact hq, z⟩
theorem Xt.free {b : Addr} {H H' : Hp} (x : Xt b H H') {p : Addr} (hb : p ≠ b) (h : H' p = none) : H p = none := by
  cases e : H p with
  | none => rfl
  | some o =>
    rw [x p o hb e] at h
    cases h
theorem Bx.ne {H : Hp} {b q p : Addr} (x : Bx H b q) (h : H p = none) : p ≠ b := fun e => by
  obtain ⟨o, ho⟩ := x.some
  rw [e, ho] at h
  cases h
theorem Bx.neq {H : Hp} {b q p : Addr} (x : Bx H b q) (h : H p = none) : p ≠ q := fun e => by
  obtain ⟨ns, i, r, k, hb, hq, _⟩ := x
  rw [e, hq] at h
  cases h
theorem Bx.upd {H : Hp} {b q p : Addr} {o : HO} (x : Bx H b q) (h1 : p ≠ b) (h2 : p ≠ q) : Bx (upd H p o) b q := by
  obtain ⟨ns, i, r, k, hb, hq, z⟩ := x
  exact ⟨ns, i, r, k, by rw [upd_ne h1.symm]; exact hb, by rw [upd_ne h2.symm]; exact hq, z⟩
theorem sum_ones : ∀ ys : List Str, (∀ y ∈ ys, y.length = 1) → (ys.map (·.length)).sum = ys.length
  | [], _ => rfl
  | y :: r, h => by
    rw [List.map_cons, List.sum_cons, sum_ones r fun z hz => h z (List.mem_cons_of_mem _ hz), h y List.mem_cons_self, List.length_cons]
    omega
/-- a list other than the box stays one -/
theorem Xt.sql {K : PySem.W.Frag} {b : Addr} {H H' : Hp} (x : Xt b H H') {p : Addr} (hb : p ≠ b) {xs : List V} (h : SqL K H p xs) : SqL K H' p xs := by
  rcases h with (h | ⟨o, h⟩) | h
  · exact .inl (.inl (x _ _ hb h))
  · exact .inl (.inr ⟨o, x _ _ hb h⟩)
  · exact .inr h
theorem cut63 {xs : List V} (h : xs.length ≤ 63) : cutV xs none (some 63) = xs := by
  unfold cutV
  rw [HT.sIx_none, show HT.sIx xs.length xs.length (some 63) = min 63 xs.length from HT.sIx_nat xs.length xs.length 63, List.drop_zero, Nat.sub_zero, show min 63 xs.length = xs.length by omega, List.take_length]
section
variable {P : Program} {w : World} {K : PySem.W.Frag} {mg : Str → Option Value} {base : Heap}
/-! ### the box made -/
def spBox (K : PySem.W.Frag) : Sp := fun vs H Q _ => ∃ (a : Addr) (ns : List Int), vs = [.ref a] ∧ SqL K H a (ns.map V.int) ∧ ns.length ≤ 63 ∧ ∀ p q H', H p = none → Bx H' p q → Same H H' → Q (.ref p) H'
theorem scB : FnScope ["_law_script", "_law_knot", "_law_cell"] ["_law_script"] (defScope sBox) := ⟨rfl, rfl, rfl, by decide +kernel, rfl, by decide +kernel, by decide +kernel⟩
theorem ok_box {f : Addr} {fd : FuncData} (F : Fun K "_law_box" "_law_box" sBox f fd) (ml : mg "len" = none) (mli : mg "list" = none) : FnOk P w K mg base CX0 1 f fd ["_law_script"] (spBox K) := by
  refine F.ok scB (fun vs H Q E h => ?_) (fun cdv A outer s H vs Q E hr h => ?_)
  · obtain ⟨a, ns, rfl, _⟩ := h
    rfl
  · obtain ⟨a, ns, rfl, hS, hlen, K1⟩ := h
    refine ⟨_, pss_cons (ps_set (i := 1) scB.nd rfl (.inl rfl) (pe_op op_add pe_int (pe_op op_mul pe_int (pe_callB call_len_seq (by rfl) ml PySem.boot_len (pa_cons (pe_slice sl_list (pv 0) po_none (po_some pe_int)) pa_nil)))))
      (pss_cons (ps_for PassesOwn.never rfl (pi_list (pe_slice sl_list (pv 0) po_none (po_some pe_int))) (pg_name (i := 2) scB.nd rfl (.inl rfl))
        (pss_one (ps_set (i := 1) scB.nd rfl (.inl rfl) (pe_op op_mod (pe_op op_add (pe_op op_add (pe_op op_mul (pv 1) pe_int) (pe_op op_mod (pv 2) pe_int)) pe_int) pe_int))))
      (pss_one (ps_ret (pe_lst (pa_cons (pe_callTy call_list_of (by rfl) mli boot_list (pa_cons (pe_slice sl_list (pv 0) po_none (po_some pe_int)) pa_nil)) (pa_cons pe_int (pa_cons pe_int (pa_cons (pv 1) pa_nil)))))))), ?_⟩
    have hL : (ns.map V.int).length ≤ 63 := by
      rw [List.length_map]
      exact hlen
    -- the first slice, its length
    refine ⟨_, rfl, 63, rfl, a, _, rfl, hS, fun p1 n1 => ?_⟩
    have s1 : Same H (upd H p1 (.lst (cutV (ns.map V.int) none (some 63)))) := same_upd n1
    refine ⟨p1, _, rfl, .inl (SqL.of upd_same), 61, _, rfl, rfl, .inl ⟨by decide, by decide⟩, 9147, _, rfl, rfl, ?_⟩
    generalize hH1 : upd H p1 (.lst (cutV (ns.map V.int) none (some 63))) = H1 at s1 ⊢
    -- the second slice, the loop
    refine ⟨_, rfl, 63, rfl, a, _, rfl, s1.seq hS, fun p2 n2 => ?_⟩
    have s2 : Same H1 (upd H1 p2 (.lst (cutV (ns.map V.int) none (some 63)))) := same_upd n2
    rw [cut63 hL] at s2 ⊢
    have e2 : (upd H1 p2 (.lst (ns.map V.int))) p2 = some (.lst (ns.map V.int)) := upd_same
    generalize upd H1 p2 (.lst (ns.map V.int)) = H2 at s2 e2 ⊢
    refine ⟨p2, rfl, ⟨_, SqL.of e2⟩, for_list (xs := ns.map V.int) (fun i σ H' => ∃ k y, σ = [some (.ref a), some (.int k), y] ∧ H' = H2 ∧ 0 ≤ k ∧ k < 2147483563) ?_ ?_ ?_ ?_⟩
    · refine ⟨_, _, rfl, rfl, ?_, ?_⟩
      · omega
      · omega
    · rintro i σ H' _ ⟨k, y, _, rfl, _⟩
      exact SqL.of e2
    · rintro i x σ H' hx ⟨k, y, rfl, rfl, hk0, hk1⟩
      obtain ⟨z, rfl⟩ : ∃ z, x = V.int z := by
        rw [List.getElem?_map] at hx
        cases e : ns[i]? with
        | none =>
          rw [e] at hx
          cases hx
        | some z =>
          rw [e] at hx
          exact ⟨z, (Option.some.inj hx).symm⟩
      refine ⟨_, rfl, k, 40014, rfl, rfl, .inr ⟨by decide, by decide⟩, _, rfl, z, 2147483563, rfl, rfl, (by show (0 : Int) < 2147483563; decide), _, _, rfl, rfl, _, 7, rfl, rfl, _, 2147483563, rfl, rfl, (by show (0 : Int) < 2147483563; decide), ?_⟩
      exact ⟨_, _, rfl, rfl, Int.emod_nonneg _ (by decide), Int.emod_lt_of_pos _ (by decide)⟩
    · rintro σ H' ⟨k, y, rfl, rfl, hk0, hk1⟩
      -- the end
      refine ⟨_, rfl, 63, rfl, a, _, rfl, s2.seq (s1.seq hS), fun p3 n3 => ?_⟩
      have s3 : Same H' (upd H' p3 (.lst (cutV (ns.map V.int) none (some 63)))) := same_upd n3
      rw [cut63 hL] at s3 ⊢
      have e3 : (upd H' p3 (.lst (ns.map V.int))) p3 = some (.lst (ns.map V.int)) := upd_same
      generalize upd H' p3 (.lst (ns.map V.int)) = H3 at s3 e3 ⊢
      refine ⟨p3, _, rfl, .inl (SqL.of e3), fun p4 n4 => ?_⟩
      have s4 : Same H3 (upd H3 p4 (.lst (ns.map V.int))) := same_upd n4
      have e4 : (upd H3 p4 (.lst (ns.map V.int))) p4 = some (.lst (ns.map V.int)) := upd_same
      generalize upd H3 p4 (.lst (ns.map V.int)) = H4 at s4 e4 ⊢
      refine ⟨_, rfl, by show 4 ≤ sizeLine; decide, fun p5 n5 => ?_⟩
      have s5 := ((s1.trans s2).trans s3).trans s4
      exact K1 p5 p4 _ (s5.free n5) ⟨ns, 0, 0, k, upd_same, by rw [upd_ne (ne_of_none e4 n5)]; exact e4, by decide, by decide, hk0, hk1⟩ (s5.trans (same_upd n5))
/-! ### one of some -/
def spOne (K : PySem.W.Frag) : Sp := fun vs H Q _ =>
  (∃ (b q p : Addr) (xs : List V), vs = [.ref b, .ref p] ∧ Bx H b q ∧ SqL K H p xs ∧ p ≠ b ∧ xs ≠ [] ∧ xs.length ≤ 1000 ∧ ∀ v H', v ∈ xs → Bx H' b q → Kp b H H' → Q v H') ∨
  (∃ (b q : Addr) (z : Str), vs = [.ref b, .str z] ∧ Bx H b q ∧ 0 < z.length ∧ z.length ≤ 1000 ∧ ∀ c H', c ∈ z.cps.toList → Bx H' b q → Kp b H H' → Q (.str ⟨#[c]⟩) H')
theorem scO : FnScope ["_law_box_here", "_law_some"] ["_law_box_here", "_law_some"] (defScope sOne) := ⟨rfl, rfl, rfl, by decide +kernel, rfl, by decide +kernel, by decide +kernel⟩
/-- what callers hold of a def -/
structure Df (P : Program) (w : World) (K : PySem.W.Frag) (mg : Str → Option Value) (base : Heap) (k : Nat) (x : Str) (ps : List Str) (sp : Sp) (f : Addr) (fd : FuncData) : Prop where
  ok : FnOk P w K mg base CX0 k f fd ps sp
  gl : mg x = some (.ref f)
  kp : PySem.W.keepIn K (.ref f) = true
  bd : Binds K fd ps []
theorem ok_one {f fT : Addr} {fd fdT : FuncData} (F : Fun K "_law_one" "_law_one" sOne f fd) (ml : mg "len" = none) (T : Df P w K mg base 1 "_law_take" ["_law_box_here", "_law_many"] spTake fT fdT) : FnOk P w K mg base CX0 2 f fd ["_law_box_here", "_law_some"] (spOne K) := by
  refine F.ok scO (fun vs H Q E h => ?_) (fun cdv A outer s H vs Q E hr h => ?_)
  · rcases h with ⟨b, q, p, xs, rfl, _⟩ | ⟨b, q, z, rfl, _⟩ <;> rfl
  · rcases h with ⟨b, q, p, xs, rfl, B, hS, hp, h0, hl, K1⟩ | ⟨b, q, z, rfl, B, h0, hl, K1⟩
    · refine ⟨_, pss_one (ps_ret (pe_ix ix_list (pv 1) (pe_call T.ok hr (by rfl) T.gl T.kp T.bd .nil pass0 (pa_cons (pv 0) (pa_cons (pe_callB call_len_seq (by rfl) ml PySem.boot_len (pa_cons (pv 1) pa_nil)) pa_nil))) (fun _ _ => rfl))), ?_⟩
      have h1 : 0 < xs.length := List.length_pos_iff.mpr h0
      refine ⟨_, rfl, _, rfl, _, rfl, p, _, rfl, .inl hS, b, q, (xs.length : Int), rfl, B, by omega, by omega, fun v H' v0 v1 B' kp => ?_⟩
      have hj : v.toNat < xs.length := by omega
      refine ⟨p, xs, v, xs[v.toNat], rfl, rfl, kp.xt.sql hp hS, at_of (j := v.toNat) (by omega) (List.getElem?_eq_getElem hj), ?_⟩
      exact K1 _ _ (List.getElem_mem hj) B' kp
    · refine ⟨_, pss_one (ps_ret (pe_ix ix_str (pv 1) (pe_call T.ok hr (by rfl) T.gl T.kp T.bd .nil pass0 (pa_cons (pv 0) (pa_cons (pe_callB call_len (by rfl) ml PySem.boot_len (pa_cons (pv 1) pa_nil)) pa_nil))) (fun _ _ => rfl))), ?_⟩
      have hz : z.length ≤ sizeLine := Nat.le_of_lt (small1000 hl)
      refine ⟨_, rfl, _, rfl, _, rfl, _, z.length, rfl, ⟨hz, rfl⟩, b, q, (z.length : Int), rfl, B, by omega, by omega, fun v H' v0 v1 B' kp => ?_⟩
      obtain ⟨j, rfl⟩ : ∃ j : Nat, v = (j : Int) := ⟨v.toNat, by omega⟩
      have hj : j < z.cps.toList.length := by
        rw [Array.length_toList]
        have : z.length = z.cps.size := rfl
        omega
      refine ⟨z, (j : Int), z.cps.toList[j], rfl, rfl, hz, atI_nat (List.getElem?_eq_getElem hj), ?_⟩
      exact K1 _ _ (List.getElem_mem hj) B' kp
/-! ### a colour -/
def spHue : Sp := fun vs H Q _ => ∃ b q, vs = [.ref b] ∧ Bx H b q ∧ ∀ (c : Str) H', c ∈ (["a", "b", "c"] : List Str) → Bx H' b q → Xt b H H' → Q (.str c) H'
theorem scH : FnScope ["_law_box_here"] ["_law_box_here"] (defScope sHue) := ⟨rfl, rfl, rfl, by decide +kernel, rfl, by decide +kernel, by decide +kernel⟩
theorem ok_hue {f fO : Addr} {fd fdO : FuncData} (F : Fun K "_law_hue" "_law_hue" sHue f fd) (O : Df P w K mg base 2 "_law_one" ["_law_box_here", "_law_some"] (spOne K) fO fdO) : FnOk P w K mg base CX0 3 f fd ["_law_box_here"] spHue := by
  refine F.ok scH (fun vs H Q E h => ?_) (fun cdv A outer s H vs Q E hr h => ?_)
  · obtain ⟨b, q, rfl, _⟩ := h
    rfl
  · obtain ⟨b, q, rfl, B, K1⟩ := h
    refine ⟨_, pss_one (ps_ret (pe_call O.ok hr (by rfl) O.gl O.kp O.bd .nil pass0 (pa_cons (pv 0) (pa_cons (pe_lst (pa_cons pe_str (pa_cons pe_str (pa_cons pe_str (pa_cons pe_str (pa_cons pe_str (pa_cons pe_str pa_nil))))))) pa_nil)))), ?_⟩
    refine ⟨_, rfl, by show 6 ≤ sizeLine; decide, fun p np => ?_⟩
    refine .inl ⟨b, q, p, _, rfl, B.new np, SqL.of upd_same, B.ne np, by simp, by show 6 ≤ 1000; decide, fun v H' hv B' kp => ?_⟩
    obtain ⟨c, rfl, hc⟩ : ∃ c : Str, v = .str c ∧ c ∈ (["a", "b", "c"] : List Str) := by
      simp only [List.mem_cons, List.not_mem_nil, or_false] at hv
      rcases hv with rfl | rfl | rfl | rfl | rfl | rfl
      all_goals exact ⟨_, rfl, by simp⟩
    exact K1 c H' hc B' (((Xt.refl b H).new np).trans kp.xt)
/-! ### an arrow -/
def spArrow : Sp := fun vs H Q _ => ∃ (b q : Addr) (m : Int), vs = [.ref b, .int m] ∧ Bx H b q ∧ 0 < m ∧ m < 2 ^ 100 ∧
  ∀ (p : Addr) (c : Str) (x y : Int) H', H p = none → p ≠ b → H' p = some (.tup [.str c, .int x, .int y]) → c ∈ (["a", "b", "c"] : List Str) → 0 ≤ x → x < m → 0 ≤ y → y < m → Bx H' b q → Xt b H H' → Q (.ref p) H'
end
end Wb
namespace Wb
open PySem PySem.Spec PyProof.Rows L2 RZ
abbrev sSame : Stmt := topS 32
def scV : V → Bool
  | .non => true
  | .bl _ => true
  | .int _ => true
  | .str _ => true
  | _ => false
/-- both are the same data, at most n deep -/
def Sv (K : PySem.W.Frag) (H : Hp) : Nat → V → V → Prop
  | 0, x, y => scV x = true ∧ x = y
  | n + 1, x, y => (scV x = true ∧ x = y) ∨ ∃ (p q : Addr) (xs ys : List V), x = .ref p ∧ y = .ref q ∧ ((SqL K H p xs ∧ SqL K H q ys) ∨ (SqT K H p xs ∧ SqT K H q ys)) ∧ xs.length ≤ 100000 ∧ Paired (Sv K H n) xs ys
theorem Sv.same {K : PySem.W.Frag} {H H' : Hp} (s : Same H H') : ∀ (n : Nat) (x y : V), Sv K H n x y → Sv K H' n x y
  | 0, _, _, h => h
  | n + 1, x, y, h => by
    rcases h with h | ⟨p, q, xs, ys, e1, e2, h, hl, r⟩
    · exact .inl h
    · refine .inr ⟨p, q, xs, ys, e1, e2, ?_, hl, Paired.mapP r fun a b => Sv.same s n a b⟩
      rcases h with ⟨h1, h2⟩ | ⟨h1, h2⟩
      · exact .inl ⟨s.seq h1, s.seq h2⟩
      · refine .inr ⟨?_, ?_⟩
        · rcases h1 with (h | ⟨o, h⟩) | h
          · exact .inl (.inl (s _ _ h))
          · exact .inl (.inr ⟨o, s _ _ h⟩)
          · exact .inr h
        · rcases h2 with (h | ⟨o, h⟩) | h
          · exact .inl (.inl (s _ _ h))
          · exact .inl (.inr ⟨o, s _ _ h⟩)
          · exact .inr h
theorem same_tup {K : PySem.W.Frag} {H H' : Hp} {a : Addr} {xs : List V} (e : Same H H') (h : SqT K H a xs) : SqT K H' a xs := by
  rcases h with (h | ⟨o, h⟩) | h
  · exact .inl (.inl (e _ _ h))
  · exact .inl (.inr ⟨o, e _ _ h⟩)
  · exact .inr h
theorem ty_list {K : PySem.W.Frag} {H : Hp} {p : Addr} {xs : List V} (h : SqL K H p xs) : TyX K H (.ref p) (.type "list") := by
  rcases h with (h | ⟨o, h⟩) | ⟨o, its, n, h, hc, _⟩
  · exact .base (.lst h)
  · exact .base (.frz h)
  · exact .kList h hc
theorem ty_tup {K : PySem.W.Frag} {H : Hp} {p : Addr} {xs : List V} (h : SqT K H p xs) : TyX K H (.ref p) (.type "tuple") := by
  rcases h with (h | ⟨o, h⟩) | ⟨o, its, n, h, hc, _⟩
  · exact .base (.tup h)
  · exact .fTuple h
  · exact .kTuple h hc
theorem walk_zipT {K : PySem.W.Frag} {a b : Addr} {xs ys : List V} {n : Nat} (hn : n = min xs.length ys.length) : Walk (ItzT K a b) n (fun H => SqT K H a xs ∧ SqT K H b ys) (YPair (fun i => xs[i]?) (fun i => ys[i]?)) where
  goes := fun i H hi g => ⟨xs, ys, xs[i]'(by omega), ys[i]'(by omega), g.1, g.2, List.getElem?_eq_getElem _, List.getElem?_eq_getElem _⟩
  stops := fun H g => ⟨xs, ys, g.1, g.2, by omega⟩
  yields := fun i H v H' hi g y => by
    obtain ⟨T, x, z, e, nT, eH, h1, h2⟩ := y
    exact ⟨T, x, z, e, nT, eH, h1 _ g.1, h2 _ g.2⟩
theorem paired_at {α β : Type} {F : α → β → Prop} : ∀ {l : List α} {m : List β}, Paired F l m → ∀ (i : Nat) (x : α) (y : β), l[i]? = some x → m[i]? = some y → F x y
  | _, _, .nil, i, _, _, h, _ => by simp at h
  | _, _, .cons r _, 0, x, y, h1, h2 => by
    cases h1
    cases h2
    exact r
  | _, _, .cons _ t, i + 1, x, y, h1, h2 => paired_at t i x y h1 h2
section
variable {P : Program} {w : World} {K : PySem.W.Frag} {mg : Str → Option Value} {base : Heap}
def spSame (K : PySem.W.Frag) (n : Nat) : Sp := fun vs H Q _ => ∃ x y, vs = [x, y] ∧ Sv K H n x y ∧ ∀ H', Same H H' → Q (.bl true) H'
theorem scS : FnScope ["_law_found", "_law_due", "_law_one_here", "_law_other"] ["_law_found", "_law_due"] (defScope sSame) := ⟨rfl, rfl, rfl, by decide +kernel, rfl, by decide +kernel, by decide +kernel⟩
structure SmT (mg : Str → Option Value) : Prop where
  isi : mg "isinstance" = none
  lst : mg "list" = none
  tup : mg "tuple" = none
  bool : mg "bool" = none
  int : mg "int" = none
  str : mg "str" = none
  len : mg "len" = none
  all : mg "all" = none
  zip : mg "zip" = none
/-- a plain value against itself -/
theorem same_plain {n k : Nat} {f : Addr} {fd : FuncData} {cdv : Value} {A : Around} {outer : List Env} {s : Shared} {H : Hp} {Q : VK} {E : XK} (M : SmT mg) {v : V} {t : String} {b1 b2 b3 : Bool} (nn : v ≠ .non) (ty : TyX K H v (.type t)) (sc : scal v v = true)
    (k1 : kitB t "list" = some false) (k2 : kitB t "tuple" = some false) (k3 : kitB t "bool" = some b1) (k4 : kitB t "int" = some b2) (k5 : kitB t "str" = some b3) (q : Q (.bl true) H) :
    ∃ tt, PSs (cxOf CX0 P w K mg base ["_law_found", "_law_due", "_law_one_here", "_law_other"] "_law_same" (defScope sSame) f cdv A outer s H E).nox (defBody sSame) tt ∧ tt { nx := fun _ H' => Q .non H', rt := Q } (start ["_law_found", "_law_due", "_law_one_here", "_law_other"] [v, v]) H := by
  refine ⟨_, pss_cons (ps_if (pt_cmpR op_isN (pv 1) pe_non (nomark _)) (pss_one ps_never) pss_nil)
    (pss_cons (ps_if (PW.pt (pw_or (pt_val (pe_callB call_isi (by rfl) M.isi boot_isinstance (pa_cons (pv 1) (pa_cons (pe_bltn (v := .ty "list") (by rfl) M.lst (by decide +kernel) rfl) pa_nil)))) (pw_or1 (pt_val (pe_callB call_isi (by rfl) M.isi boot_isinstance (pa_cons (pv 1) (pa_cons (pe_bltn (v := .ty "tuple") (by rfl) M.tup (by decide +kernel) rfl) pa_nil))))))) (pss_cons ps_never (pss_one ps_never)) pss_nil)
    (pss_cons (ps_if (PW.pt (pw_or (pt_cmpR op_ne (pe_callB call_isi (by rfl) M.isi boot_isinstance (pa_cons (pv 1) (pa_cons (pe_bltn (v := .ty "bool") (by rfl) M.bool (by decide +kernel) rfl) pa_nil))) (pe_callB call_isi (by rfl) M.isi boot_isinstance (pa_cons (pv 0) (pa_cons (pe_bltn (v := .ty "bool") (by rfl) M.bool (by decide +kernel) rfl) pa_nil))) (nomark _)) (pw_or1 (pt_cmpR op_ne (pe_callB call_isi (by rfl) M.isi boot_isinstance (pa_cons (pv 1) (pa_cons (pe_bltn (v := .ty "int") (by rfl) M.int (by decide +kernel) rfl) pa_nil))) (pe_callB call_isi (by rfl) M.isi boot_isinstance (pa_cons (pv 0) (pa_cons (pe_bltn (v := .ty "int") (by rfl) M.int (by decide +kernel) rfl) pa_nil))) (nomark _))))) (pss_one ps_never) pss_nil)
    (pss_one (ps_ret (pe_and (pe_cmpR op_eq (pe_callB call_isi (by rfl) M.isi boot_isinstance (pa_cons (pv 0) (pa_cons (pe_bltn (v := .ty "str") (by rfl) M.str (by decide +kernel) rfl) pa_nil))) (pe_callB call_isi (by rfl) M.isi boot_isinstance (pa_cons (pv 1) (pa_cons (pe_bltn (v := .ty "str") (by rfl) M.str (by decide +kernel) rfl) pa_nil))) (nomark _)) (pe_one (pe_cmpR op_eq (pv 0) (pv 1) (nomark _)))))))), ?_⟩
  refine ⟨_, rfl, rfl, _, rfl, ite2 (fun e => absurd (of_decide_eq_true e) nn) fun _ => ?_⟩
  refine ⟨_, rfl, v, _, _, _, _, rfl, .ty "list", ty, kit_ty k1, _, rfl, iteF ?_⟩
  refine ⟨_, rfl, v, _, _, _, _, rfl, .ty "tuple", ty, kit_ty k2, _, rfl, iteF ?_⟩
  refine ⟨_, rfl, v, _, _, _, _, rfl, .ty "bool", ty, kit_ty k3, _, rfl, v, _, _, _, _, rfl, .ty "bool", ty, kit_ty k3, rfl, _, rfl, ?_⟩
  refine iteNS rfl ?_
  refine ⟨_, rfl, v, _, _, _, _, rfl, .ty "int", ty, kit_ty k4, _, rfl, v, _, _, _, _, rfl, .ty "int", ty, kit_ty k4, rfl, _, rfl, ?_⟩
  refine iteNS rfl ?_
  refine ⟨_, rfl, v, _, _, _, _, rfl, .ty "str", ty, kit_ty k5, _, rfl, v, _, _, _, _, rfl, .ty "str", ty, kit_ty k5, rfl, true, ?_, ?_⟩
  · rw [decide_eq_true rfl]
  · refine iteT ⟨_, rfl, _, rfl, sc, ?_⟩
    rw [decide_eq_true rfl]
    exact q
/-- a plain value against itself, any -/
theorem same_any {f : Addr} {fd : FuncData} {cdv : Value} {A : Around} {outer : List Env} {s : Shared} {H : Hp} {Q : VK} {E : XK} (M : SmT mg) {v : V} (hs : scV v = true) (q : Q (.bl true) H) :
    ∃ tt, PSs (cxOf CX0 P w K mg base ["_law_found", "_law_due", "_law_one_here", "_law_other"] "_law_same" (defScope sSame) f cdv A outer s H E).nox (defBody sSame) tt ∧ tt { nx := fun _ H' => Q .non H', rt := Q } (start ["_law_found", "_law_due", "_law_one_here", "_law_other"] [v, v]) H := by
  cases v with
  | non =>
    refine ⟨_, pss_cons (ps_if (pt_cmpR op_isN (pv 1) pe_non (nomark _)) (pss_one (ps_ret (pe_cmpR op_isN (pv 0) pe_non (nomark _)))) pss_nil) (pss_cons ps_never (pss_cons ps_never (pss_one ps_never))), ?_⟩
    exact ⟨_, rfl, rfl, _, rfl, iteT ⟨_, rfl, rfl, q⟩⟩
  | bl b => exact same_plain (n := 0) (k := 0) (fd := fd) (b1 := true) (b2 := true) (b3 := false) M (fun z => nomatch z) (.base (.bl b)) rfl (by decide +kernel) (by decide +kernel) (by decide +kernel) (by decide +kernel) (by decide +kernel) q
  | int i => exact same_plain (n := 0) (k := 0) (fd := fd) (b1 := false) (b2 := true) (b3 := false) M (fun z => nomatch z) (.base (.int i)) rfl (by decide +kernel) (by decide +kernel) (by decide +kernel) (by decide +kernel) (by decide +kernel) q
  | str z => exact same_plain (n := 0) (k := 0) (fd := fd) (b1 := false) (b2 := false) (b3 := true) M (fun z => nomatch z) (.base (.str z)) rfl (by decide +kernel) (by decide +kernel) (by decide +kernel) (by decide +kernel) (by decide +kernel) q
  | byt _ => cases hs
  | flt _ => cases hs
  | ref _ => cases hs
  | ty _ => cases hs
theorem ok_same {f : Addr} {fd : FuncData} (F : Fun K "_law_same" "_law_same" sSame f fd) (gl : mg "_law_same" = some (.ref f)) (bd : Binds K fd ["_law_found", "_law_due"] []) (M : SmT mg) : ∀ n, FnOk P w K mg base CX0 (n + 1) f fd ["_law_found", "_law_due"] (spSame K n) := by
  intro n
  induction n with
  | zero =>
    refine F.ok scS (fun vs H Q E h => ?_) (fun cdv A outer s H vs Q E hr h => ?_)
    · obtain ⟨x, y, rfl, _⟩ := h
      rfl
    · obtain ⟨x, y, rfl, ⟨hs, rfl⟩, q⟩ := h
      exact same_any (fd := fd) M hs (q _ (Same.refl _))
  | succ n ih =>
    refine F.ok scS (fun vs H Q E h => ?_) (fun cdv A outer s H vs Q E hr h => ?_)
    · obtain ⟨x, y, rfl, _⟩ := h
      rfl
    · obtain ⟨x, y, rfl, hs, q⟩ := h
      rcases hs with ⟨hs, rfl⟩ | ⟨p1, p2, xs, ys, rfl, rfl, hS, hl, pr⟩
      · exact same_any (fd := fd) M hs (q _ (Same.refl _))
      · -- two lists, or two tuples
        have hlen : xs.length = ys.length := Paired.length pr
        refine ⟨_, pss_cons (ps_if (pt_cmpR op_isN (pv 1) pe_non (nomark _)) (pss_one ps_never) pss_nil)
          (pss_cons (ps_if (PW.pt (pw_or (pt_val (pe_callB call_isi (by rfl) M.isi boot_isinstance (pa_cons (pv 1) (pa_cons (pe_bltn (v := .ty "list") (by rfl) M.lst (by decide +kernel) rfl) pa_nil)))) (pw_or1 (pt_val (pe_callB call_isi (by rfl) M.isi boot_isinstance (pa_cons (pv 1) (pa_cons (pe_bltn (v := .ty "tuple") (by rfl) M.tup (by decide +kernel) rfl) pa_nil)))))))
            (pss_cons (ps_if (PW.pt (pw_or (pt_cmpR op_ne (pe_callB call_isi (by rfl) M.isi boot_isinstance (pa_cons (pv 0) (pa_cons (pe_bltn (v := .ty "list") (by rfl) M.lst (by decide +kernel) rfl) pa_nil))) (pe_callB call_isi (by rfl) M.isi boot_isinstance (pa_cons (pv 1) (pa_cons (pe_bltn (v := .ty "list") (by rfl) M.lst (by decide +kernel) rfl) pa_nil))) (nomark _)) (pw_or1 (pt_cmpR op_ne (pe_callB call_isi (by rfl) M.isi boot_isinstance (pa_cons (pv 0) (pa_cons (pe_bltn (v := .ty "tuple") (by rfl) M.tup (by decide +kernel) rfl) pa_nil))) (pe_callB call_isi (by rfl) M.isi boot_isinstance (pa_cons (pv 1) (pa_cons (pe_bltn (v := .ty "tuple") (by rfl) M.tup (by decide +kernel) rfl) pa_nil))) (nomark _))))) (pss_one ps_never) pss_nil)
            (pss_one (ps_ret (pe_and (pe_cmpR op_eq (pe_callB call_len_seq (by rfl) M.len PySem.boot_len (pa_cons (pv 0) pa_nil)) (pe_callB call_len_seq (by rfl) M.len PySem.boot_len (pa_cons (pv 1) pa_nil)) (nomark _))
              (pe_one (pe_callB (cr_all rfl) (by rfl) M.all (by decide +kernel) (pa_cons
                (pe_lc (own := [("_law_one_here", 2), ("_law_other", 3)]) (g := gTup K 2 (gCons (gName 2) (gCons (gName 3) gNil))) (tt := tYes) rfl scS.nd (pi_zipA (by rfl) M.zip (pa_cons (pv 0) (pa_cons (pv 1) pa_nil)))
                  (blkOk_by (N := ["_law_found", "_law_due", "_law_one_here", "_law_other"]) (sc := defScope sSame) (by decide +kernel))
                  (fun _ _ _ _ _ => pg_tup rfl (pgs_cons (pg_name (i := 2) scS.nd rfl (.inl rfl)) (pgs_cons (pg_name (i := 3) scS.nd rfl (.inl rfl)) pgs_nil))) (fun _ _ _ _ _ => pts_nil)
                  (fun _ _ _ _ _ => pe_call ih hr (by rfl) gl F.kp bd .nil pass0 (pa_cons (pv 2) (pa_cons (pv 3) pa_nil)))) pa_nil)))))))
            pss_nil)
          (pss_cons ps_never (pss_one ps_never))), ?_⟩
        refine ⟨_, rfl, rfl, _, rfl, ite2 (fun e => (nomatch (of_decide_eq_true e))) fun _ => ?_⟩
        have fin : ∀ H' D, Same H H' → H' D = some (.lst ((List.replicate xs.length true).map V.bl)) → Q (.bl true) H' := fun H' D s' _ => q H' s'
        rcases hS with ⟨h1, h2⟩ | ⟨h1, h2⟩
        · refine ⟨_, rfl, _, _, _, _, _, rfl, .ty "list", ty_list h2, kit_ty (r := true) (by decide +kernel), _, rfl, iteT ?_⟩
          refine iteT ?_
          refine ⟨_, rfl, _, _, _, _, _, rfl, .ty "list", ty_list h1, kit_ty (r := true) (by decide +kernel), _, rfl, _, _, _, _, _, rfl, .ty "list", ty_list h2, kit_ty (r := true) (by decide +kernel), rfl, _, rfl, iteNS rfl ?_⟩
          refine ⟨_, rfl, _, _, _, _, _, rfl, .ty "tuple", ty_list h1, kit_ty (r := false) (by decide +kernel), _, rfl, _, _, _, _, _, rfl, .ty "tuple", ty_list h2, kit_ty (r := false) (by decide +kernel), rfl, _, rfl, iteNS rfl ?_⟩
          refine ⟨_, rfl, p1, xs, rfl, .inl h1, _, rfl, p2, ys, rfl, .inl h2, rfl, true, by rw [hlen, decide_eq_true rfl], iteT ?_⟩
          refine ⟨_, rfl, _, rfl, p1, p2, xs, ys, rfl, .inl ⟨h1, h2, fun D nD => ?_⟩⟩
          refine lc_it (walk_zip (K := K) (a := p1) (b := p2) (xs := xs) (ys := ys) (n := xs.length) (by omega)) (fun i H' => H' D = some (.lst ((List.replicate i true).map V.bl)) ∧ Same H H' ∧ i ≤ xs.length) ⟨upd_same, same_upd nD, Nat.zero_le _⟩ (fun i H' _ hp => ⟨hp.2.1.seq h1, hp.2.1.seq h2⟩) ?_ ?_
          · rintro i v H1 H2 hi ⟨hD, sm, _⟩ ⟨T, x, y, rfl, nT, rfl, gx, gy⟩
            have sT : Same H1 (upd H1 T (.tup [x, y])) := same_upd nT
            refine ⟨T, [x, y], rfl, SqT.of upd_same, rfl, x, [y], rfl, y, [], rfl, rfl, rfl, ?_⟩
            dsimp only [tYes]
            refine iteT ⟨_, rfl, _, rfl, x, y, rfl, Sv.same (sm.trans sT) n x y (paired_at pr i x y gx gy), fun H3 s3 => ?_⟩
            refine ⟨_, s3 _ _ (sT _ _ hD), by rw [List.length_map, List.length_replicate]; exact Nat.lt_of_lt_of_le hi (Nat.le_trans hl (by decide)), ?_, ?_, hi⟩
            · rw [upd_same, List.replicate_succ', List.map_append]
              rfl
            · intro c o e
              rw [upd_ne (ne_of_none e nD)]
              exact s3 _ _ (sT _ _ (sm _ _ e))
          · rintro H' ⟨hD, sm, _⟩
            refine ⟨D, List.replicate xs.length true, rfl, SqL.of hD, ?_⟩
            rw [show (List.replicate xs.length true).all id = true by simp]
            exact q H' sm
        · refine ⟨_, rfl, _, _, _, _, _, rfl, .ty "list", ty_tup h2, kit_ty (r := false) (by decide +kernel), _, rfl, iteF ?_⟩
          refine ⟨_, rfl, _, _, _, _, _, rfl, .ty "tuple", ty_tup h2, kit_ty (r := true) (by decide +kernel), _, rfl, iteT ?_⟩
          refine ⟨_, rfl, _, _, _, _, _, rfl, .ty "list", ty_tup h1, kit_ty (r := false) (by decide +kernel), _, rfl, _, _, _, _, _, rfl, .ty "list", ty_tup h2, kit_ty (r := false) (by decide +kernel), rfl, _, rfl, iteNS rfl ?_⟩
          refine ⟨_, rfl, _, _, _, _, _, rfl, .ty "tuple", ty_tup h1, kit_ty (r := true) (by decide +kernel), _, rfl, _, _, _, _, _, rfl, .ty "tuple", ty_tup h2, kit_ty (r := true) (by decide +kernel), rfl, _, rfl, iteNS rfl ?_⟩
          refine ⟨_, rfl, p1, xs, rfl, .inr h1, _, rfl, p2, ys, rfl, .inr h2, rfl, true, by rw [hlen, decide_eq_true rfl], iteT ?_⟩
          refine ⟨_, rfl, _, rfl, p1, p2, xs, ys, rfl, .inr ⟨h1, h2, fun D nD => ?_⟩⟩
          refine lc_it (walk_zipT (K := K) (a := p1) (b := p2) (xs := xs) (ys := ys) (n := xs.length) (by omega)) (fun i H' => H' D = some (.lst ((List.replicate i true).map V.bl)) ∧ Same H H' ∧ i ≤ xs.length) ⟨upd_same, same_upd nD, Nat.zero_le _⟩ (fun i H' _ hp => ⟨same_tup hp.2.1 h1, same_tup hp.2.1 h2⟩) ?_ ?_
          · rintro i v H1 H2 hi ⟨hD, sm, _⟩ ⟨T, x, y, rfl, nT, rfl, gx, gy⟩
            have sT : Same H1 (upd H1 T (.tup [x, y])) := same_upd nT
            refine ⟨T, [x, y], rfl, SqT.of upd_same, rfl, x, [y], rfl, y, [], rfl, rfl, rfl, ?_⟩
            dsimp only [tYes]
            refine iteT ⟨_, rfl, _, rfl, x, y, rfl, Sv.same (sm.trans sT) n x y (paired_at pr i x y gx gy), fun H3 s3 => ?_⟩
            refine ⟨_, s3 _ _ (sT _ _ hD), by rw [List.length_map, List.length_replicate]; exact Nat.lt_of_lt_of_le hi (Nat.le_trans hl (by decide)), ?_, ?_, hi⟩
            · rw [upd_same, List.replicate_succ', List.map_append]
              rfl
            · intro c o e
              rw [upd_ne (ne_of_none e nD)]
              exact s3 _ _ (sT _ _ (sm _ _ e))
          · rintro H' ⟨hD, sm, _⟩
            refine ⟨D, List.replicate xs.length true, rfl, SqL.of hD, ?_⟩
            rw [show (List.replicate xs.length true).all id = true by simp]
            exact q H' sm
end
end Wb
/-! Sets of tuples, their items of any kind that is carried by value (ints and texts). -/
namespace Sg
open PySem PySem.Spec PyProof.Rows L2
theorem cls_item (n : Nat) {v : Value} (h : carriedByValue v = true) : ofAClassStatement n v = pure false := by
  cases v <;> first | (cases h; done) | (cases n <;> rfl)
theorem hash_item (n : Nat) {v : Value} (h : carriedByValue v = true) : ∃ b, hashByValue n v = pure b := by
  cases v <;> first | (cases h; done) | (cases n <;> exact ⟨_, rfl⟩)
section
variable {P : Program} {w : World} {κ : Type} [DecidableEq κ] {knd : KeyKind P w κ} {A : Around} {E : Value → Shared → Prop} {s : Shared}
/-- no class statement stands behind such a tuple -/
theorem cls_tup {k : List κ} {b : Addr} {Q : Bool → Shared → Prop} (hk : IsTupleKey knd s.heap k b) (h : Q false s) : wpAny (model P w) A (ofAClassStatement 8 (.ref b)) Q E s := by
  have ty := hk.typeIs
  obtain ⟨o, its, n, ho, _, hd, hi⟩ := hk
  have bv := hi.byValue
  unfold ofAClassStatement
  refine wpAny_bind (wpAny_typeOf ty ?_)
  have e : (("tuple" : String) == "tuple") = true := by decide
  dsimp only
  simp only [e, if_true, Bool.not_true, Bool.false_eq_true, if_false]
  try refine wpAny_bind (wpAny_pure ?_)
  try simp only [Bool.not_true, Bool.false_eq_true, if_false]
  show wpAny _ _ (seqItems? (.ref b) >>= _) _ _ s
  refine wpAny_bind (wpAny_seqItems ho hd ?_)
  dsimp only
  refine wpAny_bind ?_
  show wpAny _ _ (forIn its _ _) _ _ s
  rw [← Array.forIn_toList]
  refine wpAny_forIn_list _ (fun left acc s' => acc.1 = none ∧ s' = s ∧ ∀ v ∈ left, carriedByValue v = true) _ ?_ ?_ _ _ ⟨rfl, rfl, bv⟩
  · rintro v left acc s' ⟨ha, rfl, hv⟩
    rw [cls_item 7 (hv v List.mem_cons_self)]
    refine wpAny_bind (wpAny_pure ?_)
    simp only [Bool.false_eq_true, if_false]
    exact wpAny_pure ⟨rfl, rfl, fun u hu => hv u (List.mem_cons_of_mem _ hu)⟩
  · rintro ⟨a1, a2⟩ s' ⟨ha, rfl, _⟩
    simp only at ha
    subst ha
    exact wpAny_pure h
/-- whether its hash goes by value is told, either way -/
theorem hash_tup {k : List κ} {b : Addr} {Q : Bool → Shared → Prop} (hk : IsTupleKey knd s.heap k b) (h : ∀ y, Q y s) : wpAny (model P w) A (hashByValue 8 (.ref b)) Q E s := by
  have ty := hk.typeIs
  obtain ⟨o, its, n, ho, _, hd, hi⟩ := hk
  have bv := hi.byValue
  unfold hashByValue
  refine wpAny_bind (wpAny_specialOf ty F.slot_tuple_hash.lookup ?_)
  show wpAny _ _ (seqItems? (.ref b) >>= _) _ _ s
  refine wpAny_bind (wpAny_seqItems ho hd ?_)
  refine wpAny_bind ?_
  show wpAny _ _ (forIn its _ _) _ _ s
  rw [← Array.forIn_toList]
  refine wpAny_forIn_list _ (fun left acc s' => (acc.1 = none ∨ acc.1 = some false) ∧ s' = s ∧ ∀ v ∈ left, carriedByValue v = true) _ ?_ ?_ _ _ ⟨.inl rfl, rfl, bv⟩
  · rintro v left acc s' ⟨ha, rfl, hv⟩
    obtain ⟨y, ey⟩ := hash_item 7 (hv v List.mem_cons_self)
    rw [ey]
    refine wpAny_bind (wpAny_pure ?_)
    cases y with
    | true =>
      simp only [Bool.not_true, Bool.false_eq_true, if_false]
      exact wpAny_pure ⟨.inl rfl, rfl, fun u hu => hv u (List.mem_cons_of_mem _ hu)⟩
    | false =>
      simp only [Bool.not_false, if_true]
      exact wpAny_pure (wpAny_pure (h _))
  · rintro ⟨a1, a2⟩ s' ⟨ha, rfl, _⟩
    simp only at ha
    rcases ha with rfl | rfl
    · exact wpAny_pure (h _)
    · exact wpAny_pure (h _)
/-- a look for it among such tuples shows nothing -/
theorem look_tup {k : List κ} {b : Addr} {Q : Bool → Shared → Prop} (hk : IsTupleKey knd s.heap k b) {ys : List Value} (hy : ∀ y ∈ ys, ∃ k' c, y = Value.ref c ∧ IsTupleKey knd s.heap k' c) (h : Q false s) : wpAny (model P w) A (searchCouldBeSeen (.ref b) ys) Q E s := by
  unfold searchCouldBeSeen
  refine wpAny_bind ?_
  refine wpAny_forIn_list _ (fun left acc s' => acc.1 = none ∧ s' = s ∧ ∀ y ∈ left, ∃ k' c, y = Value.ref c ∧ IsTupleKey knd s.heap k' c) _ ?_ ?_ _ _ ⟨rfl, rfl, hy⟩
  · rintro v left acc s' ⟨ha, rfl, hv⟩
    obtain ⟨k', c, rfl, hc⟩ := hv v List.mem_cons_self
    have more := fun u hu => hv u (List.mem_cons_of_mem (a := u) _ hu)
    dsimp only
    by_cases z : (b == c || (carriedByValue (.ref b) && carriedByValue (.ref c))) = true
    · exact wp_if_pos z (wpAny_pure ⟨rfl, rfl, more⟩)
    · refine wp_if_neg z (wpAny_bind (wpAny_eqIsQuiet_tuple hk ?_))
      simp only [Bool.not_true, Bool.false_eq_true, if_false]
      refine wpAny_bind (wpAny_eqIsQuiet_tuple hc ?_)
      simp only [Bool.not_true, Bool.false_eq_true, if_false]
      refine wpAny_bind (cls_tup hk ?_)
      simp only [Bool.false_eq_true, if_false]
      refine wpAny_bind (cls_tup hc ?_)
      simp only [Bool.false_eq_true, if_false]
      exact wpAny_pure ⟨rfl, rfl, more⟩
  · rintro ⟨a1, a2⟩ s' ⟨ha, rfl, _⟩
    simp only at ha
    subst ha
    exact wpAny_pure h
end
end Sg
namespace Sg
open PySem PySem.Spec PyProof.Rows L2
section
variable {P : Program} {w : World} {κ : Type} [DecidableEq κ] (knd : KeyKind P w κ)
/-- the entries of a set that holds the tuples of L -/
def ents (L : List (Addr × List κ)) : List (Int × Value) := L.map fun p => (tupleKeyHash knd p.2, Value.ref p.1)
def hashes (L : List (Addr × List κ)) : List Int := L.map fun p => tupleKeyHash knd p.2
structure Hs (h : Heap) (a : Addr) (L : List (Addr × List κ)) (es : Array (Int × Value)) (ep : Nat) (t : SetTable) : Prop where
  ob : ∃ o, h.get? a = some o ∧ o.ExactSet ∧ o.data = .set es ep t
  en : es.toList = ents knd L
  tab : TabOk t (hashes knd L)
  nd : (L.map (·.2)).Nodup
  tup : ∀ p ∈ L, IsTupleKey knd h p.2 p.1
  led : w.params.followText "set-order" = true ∨ t.led = true
  room : L.length * 5 < t.mask * 3
  few : L.length < 64
end
section
variable {P : Program} {w : World} {κ : Type} [DecidableEq κ] {knd : KeyKind P w κ} {A : Around} {E : Value → Shared → Prop} {s : Shared} {a : Addr} {L : List (Addr × List κ)} {es : Array (Int × Value)} {ep : Nat} {t : SetTable}
theorem hashes_len : (hashes knd L).length = L.length := List.length_map _
theorem size_of (h : es.toList = ents knd L) : es.size = L.length := by
  have z := congrArg List.length h
  rwa [Array.length_toList, show (ents knd L).length = L.length from List.length_map _] at z
theorem fits_of (T : TabOk t (hashes knd L)) (h : es.toList = ents knd L) (hr : L.length ≤ t.mask) : t.fits es.size = true := by
  have h1 := T.sz
  rw [hashes_len] at h1
  have h2 := size_of h
  unfold SetTable.fits SetTable.fill
  rw [T.dm, Bool.and_eq_true, beq_iff_eq, decide_eq_true_eq]
  show t.place.size = es.size ∧ t.place.size + 0 ≤ t.mask
  omega
theorem Hs.fits {h : Heap} (R : Hs knd h a L es ep t) : t.fits es.size = true := fits_of R.tab R.en (by have := R.room; omega)
theorem Hs.at {h : Heap} (R : Hs knd h a L es ep t) {i : Nat} {p : Addr × List κ} (e : L[i]? = some p) : es[i]? = some (tupleKeyHash knd p.2, Value.ref p.1) := by
  rw [← Array.getElem?_toList, R.en]
  unfold ents
  rw [List.getElem?_map, e]
  rfl
theorem Hs.ix {h : Heap} (R : Hs knd h a L es ep t) {i j : Nat} (e : t.place.toList[i]? = some j) : ∃ p, L[i]? = some p := by
  have h1 : i < t.place.toList.length := (List.getElem?_eq_some_iff.mp e).1
  have h2 := R.tab.sz
  rw [hashes_len] at h2
  rw [Array.length_toList] at h1
  exact ⟨L[i]'(by omega), List.getElem?_eq_getElem _⟩
/-- the search for a key, from the c-th place of its way on -/
theorem seek (R : Hs knd s.heap a L es ep t) {x : Addr} {k : List κ} (hx : IsTupleKey knd s.heap k x) (hu : A.units < cLine) {N : Nat} (hN : N < 10 * SetTable.turns t.mask) (hv : Int) (ehv : hv = tupleKeyHash knd k)
    (free : way t.mask hv N ∉ t.place.toList) (busy : ∀ c, c < N → way t.mask hv c ∈ t.place.toList) {Q : SetFound → Shared → Prop} (yes : k ∈ L.map (·.2) → Q (.there none) s) (no : k ∉ L.map (·.2) → Q (.free (way t.mask hv N) false) s) :
    ∀ (f c : Nat) (st : Option SetTable.Probe), st.getD (t.probeStart hv) = nth t.mask (runAt t.mask (SetTable.bits hv % (t.mask + 1)) (SetTable.bits hv)) c → c ≤ N → N - c < f →
      (∀ (i : Nat) p, L[i]? = some p → p.2 = k → ∃ c', c ≤ c' ∧ c' < N ∧ t.place.toList[i]? = some (way t.mask hv c')) → wpAny (model P w) A (setSearchFrom a (.ref x) hv true f st) Q E s
  | 0, _, _, _, _, z, _ => absurd z (Nat.not_lt_zero _)
  | f + 1, c, st, est, hc, hf, ahead => by
    obtain ⟨o, ho, hex, hd⟩ := R.ob
    rw [setSearchFrom_succ]
    refine wpAny_bind (wpAny_setState_of ho hd R.fits ?_)
    dsimp only
    refine wp_if_neg (by
      unfold SetTable.gaveWay
      rw [mask_odd R.tab.mok]
      decide) ?_
    try refine wpAny_bind (wpAny_pure ?_)
    generalize hr0 : runAt t.mask (SetTable.bits hv % (t.mask + 1)) (SetTable.bits hv) = r0 at est
    have dum : ∀ (n : Nat) (p : SetTable.Probe), p.dummy = none → (nth t.mask p n).dummy = none := by
      intro n
      induction n with
      | zero => exact fun p h => h
      | succ n ih =>
        intro p h
        refine ih (adv t.mask p) ?_
        unfold adv
        split <;> exact h
    have wy : ∀ m, way t.mask hv m = (nth t.mask r0 m).j := fun m => by rw [← hr0]
    have sh : ∀ m, nth t.mask (nth t.mask r0 c) m = nth t.mask r0 (c + m) := fun m => (nth_add t.mask c r0 m).symm
    have hj : ∀ m, (nth t.mask (nth t.mask r0 c) m).j = way t.mask hv (c + m) := fun m => by rw [sh, wy]
    have spec := go_spec t R.tab.ris R.tab.dm (fun i => (es[i]?.map (·.1)).getD 0) hv (10 * SetTable.turns t.mask) (N - c) (nth t.mask r0 c) (dum c r0 (by rw [← hr0]; rfl)) (by omega)
      (fun m hm => by rw [hj]; exact busy (c + m) (by omega)) (by rw [hj, show c + (N - c) = N by omega]; exact free)
    have ha : ∀ (i : Nat) p, L[i]? = some p → (fun i => (es[i]?.map (·.1)).getD 0) i = tupleKeyHash knd p.2 := fun i p e => by
      show (es[i]?.map (·.1)).getD 0 = _
      rw [R.at e]
      rfl
    rcases spec with ⟨m, i, hm, hi, hh, none', pr⟩ | ⟨none', pr⟩
    · have pr' : t.probe (fun i => (es[i]?.map (·.1)).getD 0) hv (st.getD (t.probeStart hv)) = some (.candidate (way t.mask hv (c + m)) i (nth t.mask r0 (c + (m + 1)))) := by
        rw [est, ← hj, ← sh]
        exact pr
      rw [pr']
      dsimp only
      rw [hj] at hi
      obtain ⟨p, hp⟩ := R.ix hi
      have hmem := List.mem_of_getElem? hp
      have go : wpAny (model P w) A (searchRest a (.ref x) hv true f es t (way t.mask hv (c + m)) i (nth t.mask r0 (c + (m + 1)))) Q E s := by
        unfold searchRest
        rw [R.at hp]
        dsimp only
        refine wpAny_bind (wpAny_holding (wpAny_eqBool_tuple hu (R.tup p hmem) hx ?_))
        refine wpAny_bind (wpAny_setState_of ho hd R.fits ?_)
        dsimp only
        by_cases hk : p.2 = k
        · exact wp_if_pos (by simp [hk]) (wpAny_pure (yes (List.mem_map.mpr ⟨p, hmem, hk⟩)))
        · refine wp_if_neg (by simp [hk]) ?_
          try refine wpAny_bind (wpAny_pure ?_)
          rw [sameMem]
          dsimp only
          have live : t.slot (way t.mask hv (c + m)) = .live i := slot_live R.tab.ris hi
          simp only [if_true, live, R.at hp]
          refine wpAny_bind (wpAny_isSame_ref_self (wpAny_bind (wpAny_pure ?_)))
          simp only [if_true]
          refine wp_if_neg (by simp [hk]) ?_
          refine seek R hx hu hN hv ehv free busy yes no f (c + (m + 1)) _ (by rw [hr0]; rfl) (by omega) (by omega) fun i0 p0 h0 hk0 => ?_
          obtain ⟨c', b1, b2, b3⟩ := ahead i0 p0 h0 hk0
          refine ⟨c', ?_, b2, b3⟩
          by_cases lt : c' < c + m
          · exact absurd ((ha i0 p0 h0).trans (by rw [hk0, ehv])) (none' (c' - c) i0 (by omega) (by rw [hj, show c + (c' - c) = c' by omega]; exact b3))
          · by_cases eq : c' = c + m
            · subst eq
              have s0 := slot_live R.tab.ris b3
              rw [live] at s0
              injection s0 with s0
              rw [← s0, hp] at h0
              exact absurd ((congrArg Prod.snd (Option.some.inj h0)).trans hk0) hk
            · omega
      by_cases hl : t.led = true
      · refine wp_if_neg (by simp [hl]) ?_
        try refine wpAny_bind (wpAny_pure ?_)
        exact go
      · refine wp_if_pos (by simp [hl]) (wpAny_bind (look_tup hx (fun y hy => ?_) ?_))
        · obtain ⟨e, he, ee⟩ := List.mem_map.mp hy
          have he1 : e ∈ es ∧ e.1 = hv := by simpa using he
          have he2 : e ∈ es.toList := by simpa using he1.1
          rw [R.en] at he2
          obtain ⟨p2, hp2, e2⟩ := List.mem_map.mp he2
          exact ⟨p2.2, p2.1, by rw [← ee, ← e2], R.tup p2 hp2⟩
        · refine wp_if_neg (by decide) ?_
          try refine wpAny_bind (wpAny_pure ?_)
          exact go
    · have pr' : t.probe (fun i => (es[i]?.map (·.1)).getD 0) hv (st.getD (t.probeStart hv)) = some (.empty (way t.mask hv N) none) := by
        rw [est, show way t.mask hv N = (nth t.mask (nth t.mask r0 c) (N - c)).j by rw [hj, show c + (N - c) = N by omega]]
        exact pr
      rw [pr']
      dsimp only
      refine wpAny_pure (no fun hin => ?_)
      obtain ⟨p0, h0, hk0⟩ := List.mem_map.mp hin
      obtain ⟨i0, hi0, e0⟩ := List.getElem_of_mem h0
      have h00 : L[i0]? = some p0 := by rw [List.getElem?_eq_getElem hi0, e0]
      obtain ⟨c', b1, b2, b3⟩ := ahead i0 p0 h00 hk0
      exact absurd ((ha i0 p0 h00).trans (by rw [hk0, ehv])) (none' (c' - c) i0 (by omega) (by rw [hj, show c + (c' - c) = c' by omega]; exact b3))
theorem seek0 (R : Hs knd s.heap a L es ep t) {x : Addr} {k : List κ} (hx : IsTupleKey knd s.heap k x) (hu : A.units < cLine) {Q : SetFound → Shared → Prop} (yes : k ∈ L.map (·.2) → Q (.there none) s)
    (no : ∀ N, k ∉ L.map (·.2) → way t.mask (tupleKeyHash knd k) N ∉ t.place.toList → (∀ c, c < N → way t.mask (tupleKeyHash knd k) c ∈ t.place.toList) → Q (.free (way t.mask (tupleKeyHash knd k) N) false) s) :
    wpAny (model P w) A (setSearch a (.ref x) (tupleKeyHash knd k) true) Q E s := by
  have hroom := R.room
  obtain ⟨N, hN, free, busy⟩ := R.tab.first (by rw [hashes_len]; omega) (tupleKeyHash knd k)
  have big : 10 * SetTable.turns t.mask ≤ 1420 := by
    unfold SetTable.turns
    rcases R.tab.mok with e | e | e <;> omega
  unfold setSearch
  refine seek R hx hu hN _ rfl free busy yes (fun hn => no N hn free busy) 100000 0 none rfl (Nat.zero_le _) (by omega) fun i p hp hk => ?_
  have hsz := R.tab.sz
  rw [hashes_len] at hsz
  have hil : i < t.place.toList.length := by
    have := (List.getElem?_eq_some_iff.mp hp).1
    rw [Array.length_toList]
    omega
  obtain ⟨c, hc, e⟩ := R.tab.before free (i := i) (by unfold hashes; rw [List.getElem?_map, hp, ← hk]; rfl) (List.getElem?_eq_getElem hil)
  exact ⟨c, Nat.zero_le _, hc, by rw [List.getElem?_eq_getElem hil, e]⟩
end
end Sg
namespace Sg
open PySem PySem.Spec PyProof.Rows L2
section
variable {P : Program} {w : World} {κ : Type} [DecidableEq κ] {knd : KeyKind P w κ} {A : Around} {E : Value → Shared → Prop} {s : Shared} {a : Addr} {L : List (Addr × List κ)} {es : Array (Int × Value)} {ep : Nat} {t : SetTable}
/-- a tuple stays, where the set at a is written -/
theorem tup_but {h h' : Heap} {k : List κ} {b : Addr} {o : Obj} (hb : IsTupleKey knd h k b) (ho : h.get? a = some o) (hd : o.data = .set es ep t) (hs : Heap.SameBut a h h') : IsTupleKey knd h' k b := by
  obtain ⟨u, its, n, hu, hc, hdu, hi⟩ := hb
  refine ⟨u, its, n, (hs.2 b fun z => ?_).trans hu, hc, hdu, hi⟩
  subst z
  cases Option.some.inj (hu.symm.trans ho)
  rw [hd] at hdu
  cases hdu
theorem tup_stay {h h' : Heap} {k : List κ} {b : Addr} (x : IsTupleKey knd h k b) (hk : ∀ c o, h.get? c = some o → h'.get? c = some o) : IsTupleKey knd h' k b := by
  obtain ⟨o, its, n, ho, r⟩ := x
  exact ⟨o, its, n, hk b o ho, r⟩
theorem tab_plain {hs : List Int} {b : Bool} (T : TabOk t hs) : TabOk { t with plain := b } hs := ⟨T.ris, T.dm, T.sz, T.mok, T.bd, T.reach⟩
theorem put_in {α : Type} (l : List α) (p : Nat) (x : α) : (l.take p ++ x :: l.drop p).Perm (x :: l) := by
  have z : (l.take p ++ x :: l.drop p).Perm (x :: (l.take p ++ l.drop p)) := List.perm_middle
  rwa [List.take_append_drop] at z
/-- rows picked by a rearrangement of their numbers are a rearrangement -/
theorem picked {α : Type} (l : List α) : ∀ ord : List Nat, ord.Perm (List.range l.length) → (ord.filterMap fun i => l[i]?).Perm l := by
  intro ord hp
  refine (hp.filterMap fun i => l[i]?).trans ?_
  have all : ∀ n, n ≤ l.length → (List.range n).filterMap (fun i => l[i]?) = l.take n := by
    intro n
    induction n with
    | zero => exact fun _ => rfl
    | succ n ih =>
      intro hn
      rw [List.range_succ, List.filterMap_append, ih (Nat.le_of_succ_le hn), List.take_add_one]
      simp [List.getElem?_eq_getElem hn]
  rw [all _ (Nat.le_refl _), List.take_length]
/-- the entries in another order are those of the rows in that order -/
theorem ents_pick (h : es.toList = ents knd L) (ord : Array Nat) (hp : ord.toList.Perm (List.range L.length)) :
    (ord.filterMap (es[·]?)).toList = ents knd (ord.toList.filterMap fun i => L[i]?) ∧ hashes knd (ord.toList.filterMap fun i => L[i]?) = ord.toList.map fun i => (es.map (·.1)).getD i 0 := by
  have key : ∀ l : List Nat, (∀ i ∈ l, i < L.length) → l.filterMap (fun i => es[i]?) = ents knd (l.filterMap fun i => L[i]?) ∧ hashes knd (l.filterMap fun i => L[i]?) = l.map fun i => (es.map (·.1)).getD i 0 := by
    intro l
    induction l with
    | nil => exact fun _ => ⟨rfl, rfl⟩
    | cons i l ih =>
      intro hl
      have hi := hl i List.mem_cons_self
      obtain ⟨e1, e2⟩ := ih fun j hj => hl j (List.mem_cons_of_mem _ hj)
      have ee : es[i]? = some (tupleKeyHash knd (L[i]).2, Value.ref (L[i]).1) := by
        rw [← Array.getElem?_toList, h]
        unfold ents
        rw [List.getElem?_map, List.getElem?_eq_getElem hi]
        rfl
      have eL : L[i]? = some L[i] := List.getElem?_eq_getElem hi
      rw [List.filterMap_cons_some ee, List.filterMap_cons_some eL]
      refine ⟨?_, ?_⟩
      · rw [e1]
        rfl
      · show tupleKeyHash knd (L[i]).2 :: hashes knd _ = _ :: _
        rw [e2]
        congr 1
        have e5 : (es.map (·.1))[i]? = some (tupleKeyHash knd (L[i]).2) := by
          rw [Array.getElem?_map, ee]
          rfl
        simp [Array.getD_eq_getD_getElem?, e5]
  obtain ⟨e1, e2⟩ := key ord.toList fun i hi => List.mem_range.mp (hp.mem_iff.mp hi)
  exact ⟨by first | (rw [Array.toList_filterMap]; exact e1) | simpa using e1, e2⟩
/-- the table laid anew, greater -/
theorem relay {o : Obj} (ho : s.heap.get? a = some o) (hex : o.ExactSet) (hd : o.data = .set es ep t) (en : es.toList = ents knd L) (T0 : TabOk t (hashes knd L)) (hr : L.length ≤ t.mask) (nd : (L.map (·.2)).Nodup) (tup : ∀ p ∈ L, IsTupleKey knd s.heap p.2 p.1)
    (ld : w.params.followText "set-order" = true ∨ t.led = true) (few : L.length < 64) {wanted M : Nat} (hw : SetTable.sizeAbove wanted - 1 = M) (hM : MaskOk M) (hw2 : SetTable.sizeAbove wanted ≤ 128) (hn : L.length * 5 < M * 3) {Q : Unit → Shared → Prop}
    (hQ : ∀ h' L' es' ep' t', Heap.SameBut a s.heap h' → Hs knd h' a L' es' ep' t' → L'.Perm L → Q () { s with heap := h' }) : wpAny (model P w) A (setRelay a wanted) Q E s := by
  have hsl := size_of en
  obtain ⟨t', ord, e, hp, T, em, el, _, ed⟩ := relaid_ok t (hs := es.map (·.1)) (wanted := wanted) hw hM (by rw [Array.size_map, hsl]; omega)
  rw [Array.size_map, hsl] at hp
  obtain ⟨r1, r2⟩ := ents_pick en ord hp
  have pm := picked L ord.toList hp
  rw [← r2] at T
  have hs2 : (ord.filterMap (es[·]?)).size = es.size := by
    rw [size_of r1, pm.length_eq, hsl]
  rw [setRelay_eq]
  refine wpAny_bind (wpAny_setState_of ho hd (fits_of T0 en hr) ?_)
  dsimp only
  refine wp_if_neg (by rw [sizeLine_eq]; omega) ?_
  try refine wpAny_bind (wpAny_pure ?_)
  rw [e]
  dsimp only
  refine wpAny_bind (wp_if_neg (by rw [hs2]; simp) ?_)
  try refine wpAny_bind (wpAny_pure ?_)
  refine wpAny_pure ?_
  dsimp only
  refine wpAny_storeSet_of ho hd ?_ (by rw [hs2, hsl, sizeLine_eq]; omega)
  have sb : Heap.SameBut a s.heap (s.heap.update a (Obj.putSet (ord.filterMap (es[·]?)) t')) := Heap.SameBut.update ..
  exact hQ _ _ _ (ep + 1) t' sb ⟨⟨_, store_at ho hd, ⟨hex.1, hex.2.1, hex.2.2⟩, rfl⟩, r1, T, (pm.map (·.2)).nodup_iff.mpr nd, fun p hpm => tup_but (tup p (pm.mem_iff.mp hpm)) ho hd sb, by rw [el]; exact ld, by rw [pm.length_eq, em]; exact hn, by rw [pm.length_eq]; exact few⟩ pm
/-- a key added -/
theorem put (R : Hs knd s.heap a L es ep t) {x : Addr} {k : List κ} (hx : IsTupleKey knd s.heap k x) (hu : A.units < cLine) (hfew : L.length + 1 < 64) {Q : Bool → Shared → Prop}
    (hQ : ∀ b h' L' es' ep' t', Heap.SameBut a s.heap h' → Hs knd h' a L' es' ep' t' → (k ∈ L.map (·.2) → L' = L) → (k ∉ L.map (·.2) → L'.Perm ((x, k) :: L)) → Q b { s with heap := h' }) : wpAny (model P w) A (setAddHashed a (.ref x) (tupleKeyHash knd k)) Q E s := by
  obtain ⟨o, ho, hex, hd⟩ := R.ob
  have hsl := size_of R.en
  have hroom := R.room
  unfold setAddHashed
  refine wpAny_holding ?_
  rw [show (100000 : Nat) = 99999 + 1 from rfl, setAddHashedIn_succ]
  refine wpAny_bind (wpAny_setState_of ho hd R.fits ?_)
  dsimp only
  refine wp_if_neg (by simp [byScan, Value.scannable]) ?_
  try refine wpAny_bind (wpAny_pure ?_)
  refine wpAny_bind (seek0 R hx hu (fun hm => ?_) fun N hm free busy => ?_)
  · exact wpAny_pure (hQ false s.heap L es ep t (Heap.SameBut.refl a s.heap) R (fun _ => rfl) fun z => absurd hm z)
  · dsimp only
    refine wpAny_bind (wpAny_setState_of ho hd R.fits ?_)
    dsimp only
    obtain ⟨q1, q2, q3, q4, q5, q6, q7, q8, q9⟩ := R.tab.put free busy
    generalize hpt : t.put (way t.mask (tupleKeyHash knd k) N) = pt at q1 q3 q4 q5 q6 q7 q8 q9 ⊢
    obtain ⟨t1, p⟩ := pt
    dsimp only at q1 q3 q4 q5 q6 q7 q8 q9 ⊢
    subst q1
    have hin : (SetTable.insertAt es (SetTable.below t.place (way t.mask (tupleKeyHash knd k) N)) (tupleKeyHash knd k, Value.ref x)).toList = ents knd (L.take (SetTable.below t.place (way t.mask (tupleKeyHash knd k) N)) ++ (x, k) :: L.drop (SetTable.below t.place (way t.mask (tupleKeyHash knd k) N))) := by
      rw [SetTable.toList_insertAt, R.en]
      unfold ents
      rw [List.map_append, List.map_cons, List.map_take, List.map_drop]
    generalize hpp : SetTable.below t.place (way t.mask (tupleKeyHash knd k) N) = p at q2 q3 hin ⊢
    have pm := put_in L p (x, k)
    have hh : (hashes knd L).take p ++ tupleKeyHash knd k :: (hashes knd L).drop p = hashes knd (L.take p ++ (x, k) :: L.drop p) := by
      unfold hashes
      rw [List.map_append, List.map_cons, List.map_take, List.map_drop]
    rw [hh] at q3
    have nd1 : ((L.take p ++ (x, k) :: L.drop p).map (·.2)).Nodup := by
      refine (pm.map (·.2)).nodup_iff.mpr ?_
      rw [List.map_cons]
      exact List.nodup_cons.mpr ⟨hm, R.nd⟩
    have hlen : (L.take p ++ (x, k) :: L.drop p).length = L.length + 1 := pm.length_eq
    generalize L.take p ++ (x, k) :: L.drop p = L1 at pm hlen q3 nd1 hin
    generalize SetTable.insertAt es p (tupleKeyHash knd k, Value.ref x) = es1 at hin ⊢
    have hes := size_of hin
    -- behind the look at its hash: the table is t1, but for its mark
    have tail : ∀ t2 : SetTable, TabOk t2 (hashes knd L1) → t2.mask = t.mask → t2.led = t.led → t2.fill = (hashes knd L).length + 1 →
        wpAny (model P w) A (do
          storeSet a es1 t2
          if !false && t2.tooFull then setRelay a (SetTable.grown (es.size + 1))
          return true) Q E s := fun t2 T2 m2 l2 f2 => by
      refine wpAny_bind (wpAny_storeSet_of ho hd ?_ (by rw [hes, hlen, sizeLine_eq]; omega))
      have sb : Heap.SameBut a s.heap (s.heap.update a (Obj.putSet es1 t2)) := Heap.SameBut.update ..
      have ho1 := store_at (es' := es1) (t' := t2) ho hd
      generalize s.heap.update a (Obj.putSet es1 t2) = h1 at sb ho1 ⊢
      have tup1 : ∀ p ∈ L1, IsTupleKey knd h1 p.2 p.1 := fun p hp => by
        rcases List.mem_cons.mp (pm.mem_iff.mp hp) with e | hp
        · rw [e]
          exact tup_but hx ho hd sb
        · exact tup_but (R.tup p hp) ho hd sb
      have ld1 : w.params.followText "set-order" = true ∨ t2.led = true := by
        rw [l2]
        exact R.led
      by_cases hf : t2.tooFull = true
      · first
          | (refine wpAny_bind ?_; refine wp_if_pos (by simp [hf]) ?_)
          | (refine wp_if_pos (by simp [hf]) ?_; refine wpAny_bind ?_)
        have full : (L.length + 1) * 5 ≥ t2.mask * 3 := by
          have z := hf
          unfold SetTable.tooFull at z
          rw [decide_eq_true_eq, f2, hashes_len] at z
          exact z
        rw [hsl]
        have two : (t.mask = 7 ∧ L.length = 4) ∨ (t.mask = 31 ∧ L.length = 18) := by
          rw [m2] at full
          rcases R.tab.mok with e | e | e
          · exact .inl ⟨e, by rw [e] at full hroom; omega⟩
          · exact .inr ⟨e, by rw [e] at full hroom; omega⟩
          · rw [e] at full
            omega
        have go : ∀ M, SetTable.sizeAbove (SetTable.grown (L.length + 1)) - 1 = M → MaskOk M → SetTable.sizeAbove (SetTable.grown (L.length + 1)) ≤ 128 → (L.length + 1) * 5 < M * 3 →
            wpAny (model P w) A (setRelay a (SetTable.grown (L.length + 1))) (fun _ s' => wpAny (model P w) A (pure true) Q E s') E { s with heap := h1 } := fun M g1 g2 g3 g4 =>
          relay (s := { s with heap := h1 }) ho1 ⟨hex.1, hex.2.1, hex.2.2⟩ rfl hin T2 (by rw [hlen, m2]; rcases two with ⟨e, e2⟩ | ⟨e, e2⟩ <;> omega) nd1 tup1 ld1 (by rw [hlen]; exact hfew) g1 g2 g3 (by rw [hlen]; exact g4)
            fun h2 L2 es2 ep2 t2 sb2 R2 pm2 => wpAny_pure (hQ true h2 L2 es2 ep2 t2 (sb.trans sb2) R2 (fun z => absurd z hm) fun _ => pm2.trans pm)
        rcases two with ⟨_, e2⟩ | ⟨_, e2⟩
        · exact go 31 (by rw [e2, size_20]) (.inr (.inl rfl)) (by rw [e2, size_20]; decide) (by omega)
        · exact go 127 (by rw [e2, size_76]) (.inr (.inr rfl)) (by rw [e2, size_76]; decide) (by omega)
      · first
          | refine wp_if_neg (by simp [hf]) ?_
          | (refine wpAny_bind ?_; refine wp_if_neg (by simp [hf]) ?_; refine wpAny_pure ?_)
        refine wpAny_pure (hQ true h1 L1 es1 (ep + 1) t2 sb ⟨⟨_, ho1, ⟨hex.1, hex.2.1, hex.2.2⟩, rfl⟩, hin, T2, nd1, tup1, ld1, ?_, by rw [hlen]; exact hfew⟩ (fun z => absurd z hm) fun _ => pm)
        have z := hf
        unfold SetTable.tooFull at z
        rw [decide_eq_true_eq, f2, hashes_len] at z
        rw [hlen]
        omega
    have both : ∀ y : Bool, wpAny (model P w) A (do
        storeSet a es1 (if y = true then t1 else { t1 with plain := false })
        if !false && (if y = true then t1 else { t1 with plain := false }).tooFull then setRelay a (SetTable.grown (es.size + 1))
        return true) Q E s := fun y => by
      cases y with
      | true => exact tail t1 q3 q4 q5 q9
      | false => exact tail { t1 with plain := false } (tab_plain q3) q4 q5 q9
    by_cases hp1 : t1.plain = true
    · first
        | (refine wpAny_bind ?_; refine wp_if_pos hp1 ?_; refine hash_tup hx ?_)
        | refine wp_if_pos hp1 (wpAny_bind (hash_tup hx ?_))
      exact fun y => both y
    · first
        | (refine wpAny_bind ?_; refine wp_if_neg hp1 ?_; refine wpAny_pure ?_)
        | refine wp_if_neg hp1 (wpAny_bind (wpAny_pure ?_))
      exact both true
end
end Sg
namespace Sg
open PySem PySem.Spec PyProof.Rows L2
/-- what the first i of ks have brought -/
structure Brought {κ : Type} (ks : List (Addr × List κ)) (i : Nat) (L : List (Addr × List κ)) : Prop where
  of : ∀ p ∈ L, p ∈ ks.take i
  all : ∀ p ∈ ks.take i, p.2 ∈ L.map (·.2)
  len : L.length ≤ i
theorem Brought.again {κ : Type} {ks L : List (Addr × List κ)} {i : Nat} {x : Addr × List κ} (g : Brought ks i L) (e : ks[i]? = some x) (hm : x.2 ∈ L.map (·.2)) : Brought ks (i + 1) L := by
  have ht : ks.take (i + 1) = ks.take i ++ [x] := by
    rw [List.take_add_one, e]
    rfl
  refine ⟨fun p hp => by rw [ht]; exact List.mem_append_left _ (g.of p hp), fun p hp => ?_, Nat.le_succ_of_le g.len⟩
  rw [ht] at hp
  rcases List.mem_append.mp hp with z | z
  · exact g.all p z
  · rw [List.mem_singleton.mp z]
    exact hm
theorem Brought.more {κ : Type} {ks L L' : List (Addr × List κ)} {i : Nat} {x : Addr × List κ} (g : Brought ks i L) (e : ks[i]? = some x) (pm : L'.Perm (x :: L)) : Brought ks (i + 1) L' := by
  have ht : ks.take (i + 1) = ks.take i ++ [x] := by
    rw [List.take_add_one, e]
    rfl
  refine ⟨fun p hp => ?_, fun p hp => ?_, by rw [pm.length_eq, List.length_cons]; exact Nat.succ_le_succ g.len⟩
  · rw [ht]
    rcases List.mem_cons.mp (pm.mem_iff.mp hp) with z | z
    · rw [z]
      exact List.mem_append_right _ (List.mem_singleton.mpr rfl)
    · exact List.mem_append_left _ (g.of p z)
  · rw [(pm.map (·.2)).mem_iff, List.map_cons]
    rw [ht] at hp
    rcases List.mem_append.mp hp with z | z
    · exact List.mem_cons_of_mem _ (g.all p z)
    · rw [List.mem_singleton.mp z]
      exact List.mem_cons_self
section
variable {P : Program} {w : World} {κ : Type} [DecidableEq κ] {knd : KeyKind P w κ} {A : Around} {E : Value → Shared → Prop} {s : Shared}
abbrev nset (w : World) : Obj := { cls := .type "set", dict := none, data := .set #[] 0 (.fresh 0 0 (!w.params.followText "set-order")) }
theorem hs_new {h : Heap} {a : Addr} (ho : h.get? a = some (nset w)) : Hs knd h a [] #[] 0 (.fresh 0 0 (!w.params.followText "set-order")) where
  ob := ⟨_, ho, ⟨rfl, rfl, rfl⟩, rfl⟩
  en := rfl
  tab := ⟨List.Pairwise.nil, rfl, rfl, .inl rfl, fun x hx => (by cases hx), fun i h j hi => (by simp [hashes] at hi)⟩
  nd := List.nodup_nil
  tup := fun p hp => (by cases hp)
  led := by
    show _ ∨ (!w.params.followText "set-order") = true
    cases w.params.followText "set-order"
    · exact .inr rfl
    · exact .inl rfl
  room := show 0 * 5 < 7 * 3 by decide
  few := show 0 < 64 by decide
theorem Hs.stay {h h' : Heap} {a : Addr} {L : List (Addr × List κ)} {es : Array (Int × Value)} {ep : Nat} {t : SetTable} (R : Hs knd h a L es ep t) (ha : ∀ o, h.get? a = some o → h'.get? a = some o) (ht : ∀ p ∈ L, IsTupleKey knd h' p.2 p.1) : Hs knd h' a L es ep t := by
  obtain ⟨o, ho, r⟩ := R.ob
  exact ⟨⟨o, ha o ho, r⟩, R.en, R.tab, R.nd, ht, R.led, R.room, R.few⟩
/-- the loop that fills a set -/
theorem fill {I : Addr} {fp wr : List Addr} {G : Array GenState → Array GenState → Prop} {n : Nat} {Pv : Nat → Value → Prop} {St : Nat → Shared → Prop} {R : Result → Shared → Prop} (W : WalksS P w A.in1 I fp wr G n Pv St) (S : Addr) (hSf : S ∉ fp) (ks : List (Addr × List κ))
    (hn : n = ks.length) (hfew : ks.length < 64) (hval : ∀ i v, Pv i v → ∃ p, ks[i]? = some p ∧ v = .ref p.1) (h0 : Heap) (hk : ∀ p ∈ ks, IsTupleKey knd h0 p.2 p.1) (hS0 : h0.get? S = none) (hw0 : ∀ b ∈ wr, h0.get? b = none) (hu : A.in1.units < cLine) :
    ∀ (left i : Nat) (s : Shared), n - i = left → i ≤ n → St i s → (∀ b o, h0.get? b = some o → s.heap.get? b = some o) → (∃ L es ep t, Hs knd s.heap S L es ep t ∧ Brought ks i L) →
      (∀ s' L es ep t, Moved (S :: wr) G s s' → Hs knd s'.heap S L es ep t → Brought ks n L → (∀ b o, h0.get? b = some o → s'.heap.get? b = some o) → R (.ok (.ret .none)) s') → codeAny (model P w) A (.builtin "set.update.loop" ⟨[.ref S, .ref I], []⟩) R s := by
  have hSw : S ∉ wr := fun z => hSf (W.sub _ z)
  have wide : ∀ b ∈ wr, b ∈ S :: wr := fun b hb => List.mem_cons_of_mem _ hb
  have kept : ∀ {s s' : Shared}, Moved wr G s s' → (∀ b o, h0.get? b = some o → s.heap.get? b = some o) → ∀ b o, h0.get? b = some o → s'.heap.get? b = some o := fun hm kp b o e => hm.heap b o (fun hb => by rw [hw0 b hb] at e; cases e) (kp b o e)
  intro left
  induction left with
  | zero =>
    intro i s hl hi hst kp ⟨L, es, ep, t, hS, g⟩ hR
    obtain rfl : i = n := by omega
    refine codeAny_builtin F.entry_set_update_loop ?_
    rw [Around.under_plainId F.plain_set_update_loop _]
    show wpAny _ A.in1 (pyNext (.ref I) >>= _) _ _ s
    refine wpAny_bind (W.done s _ _ hst fun s' hm => ?_)
    show wpAny _ A.in1 (ret Value.none) _ _ s'
    have kp' := kept hm kp
    exact wpAny_pure (hR s' L es ep t (hm.mono wide) (hS.stay (fun o e => hm.heap S o hSw e) fun p hp => tup_stay (hk p (List.mem_of_mem_take (g.of p hp))) kp') g kp')
  | succ left ih =>
    intro i s hl hi hst kp ⟨L, es, ep, t, hS, g⟩ hR
    have lt : i < n := by omega
    refine codeAny_builtin F.entry_set_update_loop ?_
    rw [Around.under_plainId F.plain_set_update_loop _]
    show wpAny _ A.in1 (pyNext (.ref I) >>= _) _ _ s
    refine wpAny_bind (W.item i s _ _ lt hst fun v s' hP hst' hm => ?_)
    obtain ⟨p, hp, rfl⟩ := hval i v hP
    have kp' := kept hm kp
    have hS' : Hs knd s'.heap S L es ep t := hS.stay (fun o e => hm.heap S o hSw e) fun q hq => tup_stay (hk q (List.mem_of_mem_take (g.of q hq))) kp'
    have hx := tup_stay (hk p (List.mem_of_getElem? hp)) kp'
    show wpAny _ A.in1 (holding [Value.ref p.1] (setAdd S (.ref p.1)) >>= _) _ _ s'
    refine wpAny_bind (wpAny_holding ?_)
    unfold setAdd
    refine wpAny_holding (wpAny_bind (wpAny_pyHash_tuple hu hx ?_))
    refine put (s := { s' with toks := s'.toks + (p.2.length + 1) }) hS' hx hu (by have := g.len; omega) fun b h' L' es' ep' t' hsb hS2 c1 c2 => ?_
    have g' : Brought ks (i + 1) L' := by
      by_cases c : p.2 ∈ L.map (·.2)
      · rw [c1 c]
        exact g.again hp c
      · exact g.more hp (c2 c)
    have kp2 : ∀ b o, h0.get? b = some o → h'.get? b = some o := fun b o e => (hsb.2 b (fun z => by rw [z, hS0] at e; cases e)).trans (kp' b o e)
    refine wpAny_pure ⟨plainId_quiet F.plain_set_update_loop _, ih (i + 1) _ (by omega) lt (W.frame _ s' _ _ hst' (Nat.le_add_right _ _) fun b hb o e => ?_) kp2 ⟨L', es', ep', t', hS2, g'⟩ fun s2 L2 es2 ep2 t2 hm2 hS3 g3 kp3 => ?_⟩
    · rw [hsb.2 b (fun z : b = S => hSf (by rw [← z]; exact hb))]
      exact e
    · refine hR s2 L2 es2 ep2 t2 (Moved.trans W.gtrans ((hm.mono wide).then_heap (Nat.le_add_right _ _) fun b o hb e => ?_) hm2) hS3 g3 kp3
      rw [hsb.2 b (fun z : b = S => hb (by rw [z]; exact List.mem_cons_self))]
      exact e
set_option maxHeartbeats 3200000 in
/-- set(xs), xs a list of such tuples -/
theorem set_of_list {l : Addr} {items : Array Value} (ks : List (Addr × List κ)) {Q : Value → Shared → Prop} (hh : A.handled = none) (hl : s.heap.IsList l items) (hit : items.toList = ks.map fun p => Value.ref p.1) (hk : ∀ p ∈ ks, IsTupleKey knd s.heap p.2 p.1) (hfew : ks.length < 64) (hu : A.units + 3 < cLine)
    (h : ∀ (h' : Heap) (tk : Nat) L es ep t, Hs knd h' s.heap.objs.size L es ep t → Brought ks ks.length L → (∀ b o, s.heap.get? b = some o → h'.get? b = some o) → Q (.ref s.heap.objs.size) { s with heap := h', toks := tk }) : wpAny (model P w) A (call (.type "set") [.ref l]) Q E s := by
  have isz : items.size = ks.length := by
    have z := congrArg List.length hit
    rwa [Array.length_toList, List.length_map] at z
  obtain ⟨c, tl, hmro⟩ := F.called_set.mro
  have m1 := F.called_set.made
  have m2 := F.called_set.sub
  refine wpAny_call (codeAny_of_tree ?_)
  show wpAny _ _ (callAny (.type "set") _) _ _ _
  refine wpAny_pure ⟨Code.quiet_builtin _ (by decide +kernel), codeAny_builtin F.entry_type_call ?_⟩
  rw [Around.under_plain (weight_type_call_type "set" [.ref l] []) rfl]
  have m3 := F.called_set.notType
  have m4 := F.called_set.canCreate
  have m5 := F.typeCall_set_1 (.ref l)
  repeat (any_goals (first
    | assumption
    | wp_step))
  refine codeAny_mono (code_set_led1 (.ref l) (E := E) (Q₁ := fun ob s₁ => ob = .ref s.heap.objs.size ∧ s₁ = { s with heap := s.heap.push (nset w) }) ⟨rfl, rfl⟩) fun r s₁ hr => ?_
  cases r with
  | error e => exact hr
  | ok fl =>
    cases fl with
    | ret ob =>
      obtain ⟨rfl, rfl⟩ := hr
      have hS : (s.heap.push (nset w)).get? s.heap.objs.size = some (nset w) := Heap.get?_push_size _ rfl
      have hT : Shared.TypeIs { s with heap := s.heap.push (nset w) } (.ref s.heap.objs.size) "set" := ⟨_, hS, rfl⟩
      have i1 := F.called_set.init.lookup
      have i2 := F.called_set.init.bind (.ref s.heap.objs.size)
      repeat (any_goals (first
        | assumption
        | wp_step))
      refine codeAny_mono (codeAny_call_builtin (R := wants (fun r s₂ => r = .none ∧ ∃ h' tk L es ep t, s₂ = { s with heap := h', toks := tk } ∧ Hs knd h' s.heap.objs.size L es ep t ∧ Brought ks ks.length L ∧ ∀ b o, s.heap.get? b = some o → h'.get? b = some o) E) F.called_set.init.plain F.entry_set_init (check_set_init_1 hT ?_)) fun r₂ s₂ hr₂ => ?_
      · obtain ⟨⟨oc, od, oda, osl⟩, hol, hcl, nl, hdl⟩ := hl
        simp only at hcl hdl
        subst hcl hdl
        have hol1 := Heap.get?_push_of_some (nset w) hol
        have b1 := F.sub_list_set
        have b2 := F.sub_list_frozenset
        have b3 : (Value.type "list" == Value.type "dict") = false := by decide
        have hl1 : (s.heap.push (nset w)).IsList l items := ⟨_, hol1, rfl, nl, rfl⟩
        unfold Builtin.«set.__init__» noKeywords Builtin.Frozenset.updateFrom
        generalize hPI : pyIter = PI
        wp_walk
        subst hPI
        refine wpAny_pyIter_list hl1 (wpAny_bind (wpAny_runValue ?_))
        have ls : l < s.heap.objs.size := Heap.lt_size hol
        have h3 : A.in1.in1.in1.handled = none := by simp [hh]
        have sz : (s.heap.push (nset w)).objs.size = s.heap.objs.size + 1 := Heap.size_push ..
        have ne : l ≠ (s.heap.push (nset w)).objs.size := by
          rw [sz]
          exact Nat.ne_of_lt (Nat.lt_succ_of_lt ls)
        have out : ∀ b, s.heap.objs.size ≤ b → s.heap.get? b = none := fun b hb => by
          cases q : s.heap.get? b with
          | none => rfl
          | some o => exact absurd (Nat.lt_of_lt_of_le (Heap.lt_size q) hb) (Nat.lt_irrefl _)
        refine fill ((Walks.list h3 _ l ne items).toS) s.heap.objs.size ?_ ks isz hfew (fun i v hv => ?_) s.heap hk (out _ (Nat.le_refl _)) (fun b hb => out b (by rw [List.mem_singleton.mp hb, sz]; exact Nat.le_succ _)) hu (items.size - 0) 0 _ (by omega) (Nat.zero_le _)
          ⟨⟨_, Heap.get?_push_size _ rfl, rfl, rfl⟩, hl1.push _⟩ (fun b o e => Heap.get?_push_of_some _ (Heap.get?_push_of_some _ e)) ⟨[], #[], 0, _, hs_new (Heap.get?_push_of_some _ hS), ⟨(fun p z => nomatch z), (fun p z => (by simp at z)), Nat.le_refl _⟩⟩ ?_
        · rw [sz]
          simp only [List.mem_cons, List.not_mem_nil, or_false, not_or]
          exact ⟨Nat.ne_of_lt (Nat.lt_succ_self _), Nat.ne_of_gt ls⟩
        · have q : items.toList[i]? = some v := by
            rw [Array.getElem?_toList]
            exact hv
          rw [hit, List.getElem?_map] at q
          cases hq : ks[i]? with
          | none =>
            rw [hq] at q
            cases q
          | some p =>
            rw [hq] at q
            exact ⟨p, rfl, (Option.some.inj q).symm⟩
        · intro s' L es ep t hm hS' g' kp
          obtain ⟨h', g2, d', tk', os'⟩ := s'
          obtain rfl : g2 = s.gens := hm.gens
          obtain rfl : d' = s.drawn := hm.drawn
          obtain rfl : os' = s.os := hm.os
          show wpAny _ _ _ _ _ _
          refine wpAny_pure ?_
          show wpAny _ _ (ret Value.none) _ _ _
          rw [isz] at g'
          exact wpAny_pure ⟨rfl, h', tk', L, es, ep, t, rfl, hS', g', kp⟩
      · cases r₂ with
        | error e => exact hr₂
        | ok fl₂ =>
          cases fl₂ with
          | ret r =>
            obtain ⟨rfl, h', tk, L, es, ep, t, rfl, hS', g', kp⟩ := hr₂
            repeat (any_goals (first
              | assumption
              | wp_step))
            exact h _ _ _ _ _ _ hS' g' kp
          | _ => exact hr₂.elim
    | _ => exact hr.elim
set_option maxHeartbeats 3200000 in
/-- set(xs), xs a tuple of such tuples -/
theorem set_of_tuple {l : Addr} {items : Array Value} (ks : List (Addr × List κ)) {Q : Value → Shared → Prop} (hh : A.handled = none) (hl : s.heap.IsTuple l items) (hit : items.toList = ks.map fun p => Value.ref p.1) (hk : ∀ p ∈ ks, IsTupleKey knd s.heap p.2 p.1) (hfew : ks.length < 64) (hu : A.units + 3 < cLine)
    (h : ∀ (h' : Heap) (tk : Nat) L es ep t, Hs knd h' s.heap.objs.size L es ep t → Brought ks ks.length L → (∀ b o, s.heap.get? b = some o → h'.get? b = some o) → Q (.ref s.heap.objs.size) { s with heap := h', toks := tk }) : wpAny (model P w) A (call (.type "set") [.ref l]) Q E s := by
  have isz : items.size = ks.length := by
    have z := congrArg List.length hit
    rwa [Array.length_toList, List.length_map] at z
  obtain ⟨c, tl, hmro⟩ := F.called_set.mro
  have m1 := F.called_set.made
  have m2 := F.called_set.sub
  refine wpAny_call (codeAny_of_tree ?_)
  show wpAny _ _ (callAny (.type "set") _) _ _ _
  refine wpAny_pure ⟨Code.quiet_builtin _ (by decide +kernel), codeAny_builtin F.entry_type_call ?_⟩
  rw [Around.under_plain (weight_type_call_type "set" [.ref l] []) rfl]
  have m3 := F.called_set.notType
  have m4 := F.called_set.canCreate
  have m5 := F.typeCall_set_1 (.ref l)
  repeat (any_goals (first
    | assumption
    | wp_step))
  refine codeAny_mono (code_set_led1 (.ref l) (E := E) (Q₁ := fun ob s₁ => ob = .ref s.heap.objs.size ∧ s₁ = { s with heap := s.heap.push (nset w) }) ⟨rfl, rfl⟩) fun r s₁ hr => ?_
  cases r with
  | error e => exact hr
  | ok fl =>
    cases fl with
    | ret ob =>
      obtain ⟨rfl, rfl⟩ := hr
      have hS : (s.heap.push (nset w)).get? s.heap.objs.size = some (nset w) := Heap.get?_push_size _ rfl
      have hT : Shared.TypeIs { s with heap := s.heap.push (nset w) } (.ref s.heap.objs.size) "set" := ⟨_, hS, rfl⟩
      have i1 := F.called_set.init.lookup
      have i2 := F.called_set.init.bind (.ref s.heap.objs.size)
      repeat (any_goals (first
        | assumption
        | wp_step))
      refine codeAny_mono (codeAny_call_builtin (R := wants (fun r s₂ => r = .none ∧ ∃ h' tk L es ep t, s₂ = { s with heap := h', toks := tk } ∧ Hs knd h' s.heap.objs.size L es ep t ∧ Brought ks ks.length L ∧ ∀ b o, s.heap.get? b = some o → h'.get? b = some o) E) F.called_set.init.plain F.entry_set_init (check_set_init_1 hT ?_)) fun r₂ s₂ hr₂ => ?_
      · obtain ⟨⟨oc, od, oda, osl⟩, hol, hcl, nl, hdl⟩ := hl
        simp only at hcl hdl
        subst hcl hdl
        have hol1 := Heap.get?_push_of_some (nset w) hol
        have b1 := F.sub_tuple_set
        have b2 := F.sub_tuple_frozenset
        have b3 : (Value.type "tuple" == Value.type "dict") = false := by decide
        have hl1 : (s.heap.push (nset w)).IsTuple l items := ⟨_, hol1, rfl, nl, rfl⟩
        unfold Builtin.«set.__init__» noKeywords Builtin.Frozenset.updateFrom
        generalize hPI : pyIter = PI
        wp_walk
        subst hPI
        refine wpAny_pyIter_tuple hl1 (wpAny_bind (wpAny_runValue ?_))
        have ls : l < s.heap.objs.size := Heap.lt_size hol
        have h3 : A.in1.in1.in1.handled = none := by simp [hh]
        have sz : (s.heap.push (nset w)).objs.size = s.heap.objs.size + 1 := Heap.size_push ..
        have ne : l ≠ (s.heap.push (nset w)).objs.size := by
          rw [sz]
          exact Nat.ne_of_lt (Nat.lt_succ_of_lt ls)
        have out : ∀ b, s.heap.objs.size ≤ b → s.heap.get? b = none := fun b hb => by
          cases q : s.heap.get? b with
          | none => rfl
          | some o => exact absurd (Nat.lt_of_lt_of_le (Heap.lt_size q) hb) (Nat.lt_irrefl _)
        refine fill ((Walks.tuple h3 _ l ne items).toS) s.heap.objs.size ?_ ks isz hfew (fun i v hv => ?_) s.heap hk (out _ (Nat.le_refl _)) (fun b hb => out b (by rw [List.mem_singleton.mp hb, sz]; exact Nat.le_succ _)) hu (items.size - 0) 0 _ (by omega) (Nat.zero_le _)
          ⟨⟨_, Heap.get?_push_size _ rfl, rfl, rfl⟩, hl1.push _⟩ (fun b o e => Heap.get?_push_of_some _ (Heap.get?_push_of_some _ e)) ⟨[], #[], 0, _, hs_new (Heap.get?_push_of_some _ hS), ⟨(fun p z => nomatch z), (fun p z => (by simp at z)), Nat.le_refl _⟩⟩ ?_
        · rw [sz]
          simp only [List.mem_cons, List.not_mem_nil, or_false, not_or]
          exact ⟨Nat.ne_of_lt (Nat.lt_succ_self _), Nat.ne_of_gt ls⟩
        · have q : items.toList[i]? = some v := by
            rw [Array.getElem?_toList]
            exact hv
          rw [hit, List.getElem?_map] at q
          cases hq : ks[i]? with
          | none =>
            rw [hq] at q
            cases q
          | some p =>
            rw [hq] at q
            exact ⟨p, rfl, (Option.some.inj q).symm⟩
        · intro s' L es ep t hm hS' g' kp
          obtain ⟨h', g2, d', tk', os'⟩ := s'
          obtain rfl : g2 = s.gens := hm.gens
          obtain rfl : d' = s.drawn := hm.drawn
          obtain rfl : os' = s.os := hm.os
          show wpAny _ _ _ _ _ _
          refine wpAny_pure ?_
          show wpAny _ _ (ret Value.none) _ _ _
          rw [isz] at g'
          exact wpAny_pure ⟨rfl, h', tk', L, es, ep, t, rfl, hS', g', kp⟩
      · cases r₂ with
        | error e => exact hr₂
        | ok fl₂ =>
          cases fl₂ with
          | ret r =>
            obtain ⟨rfl, h', tk, L, es, ep, t, rfl, hS', g', kp⟩ := hr₂
            repeat (any_goals (first
              | assumption
              | wp_step))
            exact h _ _ _ _ _ _ hS' g' kp
          | _ => exact hr₂.elim
    | _ => exact hr.elim
end
end Sg
/-! Sorting ties: tuples of a sign and numbers. -/
namespace Sg
open PySem PySem.Spec PyProof.Rows L2
def numV : Value → Int
  | .int i _ => i
  | .str z _ => ((z.cps.toList.headD 0 : Nat) : Int)
  | _ => 0
def numK : Key → Int
  | .inl i => i
  | .inr z => ((z.cps.toList.headD 0 : Nat) : Int)
/-- the numbers by which a tuple is ordered, read off the heap -/
def numsOf (h : Heap) : Value → List Int
  | .ref a => match h.get? a with
    | some o => match o.data with
      | .seq xs _ => xs.toList.map numV
      | _ => []
    | none => []
  | _ => []
/-- a sign, then numbers; all below B -/
def TieK (B : Int) (d : Nat) (k : List Key) : Prop := ∃ (c : Nat) (ns : List Int), k = .inr ⟨#[c]⟩ :: ns.map Sum.inl ∧ ns.length + 1 = d ∧ TS.Bd B ((c : Int) :: ns)
theorem TieK.len {B : Int} {d : Nat} {k : List Key} (t : TieK B d k) : k.length = d := by
  obtain ⟨c, ns, rfl, l, _⟩ := t
  rw [List.length_cons, List.length_map, l]
section
variable {P : Program} {w : World} {A : Around} {E : Value → Shared → Prop} {s : Shared}
theorem is_shape {k : Key} {v : Value} (h : (mixKind P w).is k v = true) : (∃ i t, k = Sum.inl i ∧ v = Value.int i t) ∨ (∃ x t, k = Sum.inr x ∧ v = Value.str x t) := keyIs_shape (k := k) (v := v) h
theorem nums_items {k : List Key} {vs : List Value} (h : ItemsAre (mixKind P w) k vs) : vs.map numV = k.map numK := by
  induction h with
  | nil => rfl
  | @cons k0 v ks vs h1 _ ih =>
    rw [List.map_cons, List.map_cons, ih]
    rcases is_shape h1 with ⟨i, t, rfl, rfl⟩ | ⟨x, t, rfl, rfl⟩ <;> rfl
theorem nums_at {h : Heap} {k : List Key} {a : Addr} (x : IsTupleKey (mixKind P w) h k a) : numsOf h (.ref a) = k.map numK := by
  obtain ⟨o, its, n, ho, hc, hd, hi⟩ := x
  simp only [numsOf, ho, hd]
  exact nums_items hi
theorem ints_items : ∀ {ns : List Int} {vs : List Value}, ItemsAre (mixKind P w) (ns.map Sum.inl) vs → IntsAre vs ns
  | [], _, .nil => .nil
  | n :: ns, _, .cons h1 t => by
    rcases is_shape h1 with ⟨i, tk, e, rfl⟩ | ⟨x, tk, e, rfl⟩
    · cases e
      exact .cons n tk (ints_items t)
    · cases e
theorem nums_inl (ns : List Int) : (ns.map (Sum.inl : Int → Key)).map numK = ns := by
  rw [List.map_map]
  exact List.map_id' ns
theorem lt_one (c e : Nat) : decide (([c] : List Nat) < [e]) = decide ((c : Int) < (e : Int)) := by
  refine decide_eq_decide.mpr ⟨fun h => ?_, fun h => ?_⟩
  · cases h with
    | rel h => exact Int.ofNat_lt.mpr h
    | cons h => cases h
  · exact List.Lex.rel (Int.ofNat_lt.mp h)
/-- two ties: the sign first, then the numbers -/
theorem lex_tie {B : Int} {d : Nat} {k k' : List Key} {xs ys : List Value} {Q : Bool → Shared → Prop} (hx : ItemsAre (mixKind P w) k xs) (hy : ItemsAre (mixKind P w) k' ys) (t1 : TieK B d k) (t2 : TieK B d k') (h : Q (decide (TS.code B (k.map numK) < TS.code B (k'.map numK))) s) :
    PySem.W.KatLex P w A true false Q (xs.zip ys) 0 s := by
  obtain ⟨c, ns, rfl, l1, b1⟩ := t1
  obtain ⟨e, ms, rfl, l2, b2⟩ := t2
  cases hx with
  | cons h1 hx =>
    cases hy with
    | cons h2 hy =>
      rcases is_shape h1 with ⟨i, tk, z, _⟩ | ⟨x, tk, z, rfl⟩
      · cases z
      · cases z
        rcases is_shape h2 with ⟨i, tk2, z, _⟩ | ⟨x, tk2, z, rfl⟩
        · cases z
        · cases z
          rw [List.map_cons, List.map_cons, nums_inl, nums_inl] at h
          have h' : Q (decide (TS.code B ((c : Int) :: ns) < TS.code B ((e : Int) :: ms))) s := h
          show PySem.W.KatLex P w A true false Q ((Value.str ⟨#[c]⟩ tk, Value.str ⟨#[e]⟩ tk2) :: _) 0 s
          refine PySem.W.kat_cons (wpAny_eqBool_str ?_)
          have hl : ns.length = ms.length := by omega
          by_cases q : c = e
          · subst q
            rw [decide_eq_true rfl]
            refine PySem.W.kat_yes (TS.lex_ints 1 (ints_items hx) (ints_items hy) hl b1.tail b2.tail ?_)
            rw [← decide_eq_decide.mpr (TS.code_same (B := B) (d := (c : Int)) hl)]
            exact h'
          · rw [decide_eq_false (show ¬ (⟨#[c]⟩ : Str) = ⟨#[e]⟩ from fun z => q (by injection z with z; injection z with z; injection z))]
            refine PySem.W.kat_no (oneLt_str ?_)
            have dd : decide (TS.code B ((c : Int) :: ns) < TS.code B ((e : Int) :: ms)) = decide ((c : Int) < (e : Int)) := by
              refine decide_eq_decide.mpr ⟨fun z => ?_, fun z => TS.code_lt hl b1.tail b2.tail z⟩
              rcases Int.lt_trichotomy (c : Int) (e : Int) with y | y | y
              · exact y
              · exact absurd (Int.ofNat.inj y) q
              · have := TS.code_lt hl.symm b2.tail b1.tail y
                omega
            rw [dd, ← lt_one] at h'
            exact h'
/-- the values at hand are ties -/
def Ties (P : Program) (w : World) (h : Heap) (B : Int) (d : Nat) (vs : List Value) : Prop := ∀ v ∈ vs, ∃ a k, v = Value.ref a ∧ IsTupleKey (mixKind P w) h k a ∧ TieK B d k
theorem ties_firsts {h : Heap} {B : Int} {d : Nat} : ∀ vs : List Value, Ties P w h B d vs → ∃ fs, PySem.W.KatTups h vs fs ∧ fs.length = vs.length ∧ ∀ f, f ∈ fs → ∃ z t, f = Value.str z t
  | [], _ => ⟨[], PySem.W.KatTups.nil, rfl, fun f hf => by simp at hf⟩
  | v :: vs, x => by
    obtain ⟨fs, k1, l1, i1⟩ := ties_firsts vs fun u hu => x u (List.mem_cons_of_mem _ hu)
    obtain ⟨a, k, rfl, ⟨o, its, n, ho, hc, hd, hi⟩, c, ns, rfl, _⟩ := x v List.mem_cons_self
    cases q : its.toList with
    | nil =>
      rw [q] at hi
      cases hi
    | cons y ys =>
      rw [q] at hi
      cases hi with
      | cons h1 _ =>
        rcases is_shape h1 with ⟨i, tk, z, _⟩ | ⟨z, tk, _, rfl⟩
        · cases z
        · refine ⟨_ :: fs, PySem.W.KatTups.cons ho hc hd (f := .str z tk) (by rw [← Array.getElem?_toList, q]; rfl) k1, by rw [List.length_cons, List.length_cons, l1], fun f hf => ?_⟩
          rcases List.mem_cons.mp hf with e | hf
          · exact ⟨z, tk, e⟩
          · exact i1 f hf
theorem Ties.keep {h h' : Heap} {B : Int} {d : Nat} {vs : List Value} (x : Ties P w h B d vs) (k : ∀ b o, h.get? b = some o → o.cls = .type "tuple" → h'.get? b = some o) : Ties P w h' B d vs := fun v hv => by
  obtain ⟨a, q, e, ⟨o, its, n, ho, hc, r⟩, t⟩ := x v hv
  exact ⟨a, q, e, ⟨o, its, n, k _ _ ho hc, hc, r⟩, t⟩
theorem kind_ties {B : Int} {d : Nat} {vs : List Value} (h2 : 2 ≤ vs.length) (x : Ties P w s.heap B d vs) (r : Value → Int) (hr : ∀ v ∈ vs, r v = TS.code B (numsOf s.heap v)) (Q : SortKind → Shared → Prop) (h : ∀ κ, TS.Cmp P w A s κ (pairsOf vs) r → Q κ s) :
    wpAny (model P w) A (keyKind' vs.toArray) Q E s := by
  obtain ⟨fs, kt, hl, hi⟩ := ties_firsts vs x
  refine PySem.W.kat_kind (T := Value.type "str") kt (by omega) (fun f hf => ?_) rfl (h _ ?_)
  · obtain ⟨z, t, rfl⟩ := hi f hf
    exact PySem.W.Looks.of_pure rfl
  · intro p q hp hq Q' E' hQ
    rw [pairsOf_toList] at hp hq
    have m1 := (mem_zip_self hp).2
    have m2 := (mem_zip_self hq).2
    have e1 := hr _ m1
    have e2 := hr _ m2
    obtain ⟨a, k, ea, xa, ta⟩ := x _ m1
    obtain ⟨b, k', eb, xb, tb⟩ := x _ m2
    rw [ea, nums_at xa] at e1
    rw [eb, nums_at xb] at e2
    rw [ea, eb] at hQ ⊢
    rw [e1, e2] at hQ
    obtain ⟨o, its, n, ho, hc, hd, hia⟩ := xa
    obtain ⟨o', its', n', ho', hc', hd', hib⟩ := xb
    refine PySem.W.kat_lt ho hd ho' hd' ?_
    have sz : decide (its.size < its'.size) = false := by
      have l1 := hia.length
      have l2 := hib.length
      have z1 : its.toList.length = its.size := by simp
      have z2 : its'.toList.length = its'.size := by simp
      have q1 := ta.len
      have q2 := tb.len
      exact decide_eq_false (by omega)
    rw [sz]
    exact lex_tie hia hib ta tb hQ
/-- list.sort of ties -/
theorem sort_ties {a : Addr} {vs : List Value} {n d : Nat} {B : Int} {Q : PySem.Fin → Shared → Prop} (ho : s.heap.get? a = some (seqObj "list" vs.toArray n)) (h64 : vs.length < 64) (x : Ties P w s.heap B d vs) (r : Value → Int) (hr : ∀ v ∈ vs, r v = TS.code B (numsOf s.heap v))
    (h : ∀ out : Array Value, out.toList.Perm vs → out.toList.Pairwise (fun u v => r u ≤ r v) → Q (.done (.ret .none)) { s with heap := sortedHeap s.heap a vs out }) : wpAny (model P w) A (Builtin.«list.sort» ⟨[.ref a], []⟩) Q E s := by
  have keep : ∀ b o, s.heap.get? b = some o → o.cls = .type "tuple" → (TS.midHeap s.heap a vs).get? b = some o := fun b o e hc => by
    refine TS.midHeap_old (fun z => ?_) e
    subst z
    rw [ho] at e
    cases e
    have c' : Value.type "list" = Value.type "tuple" := hc
    injection c' with c'
    exact absurd c' (by decide)
  refine SK.plain_sort (r := r) ho h64 (fun h2 Q' hQ => ?_) fun ps out h1 h2 h3 => ?_
  · refine kind_ties (s := { s with heap := TS.midHeap s.heap a vs }) h2 (x.keep keep) r (fun v hv => ?_) Q' hQ
    obtain ⟨b, k, rfl, xb, _⟩ := x v hv
    rw [hr _ hv, nums_at xb]
    obtain ⟨o, its, m, hb, hc, hd, hi⟩ := xb
    rw [nums_at (P := P) (w := w) (k := k) ⟨o, its, m, keep _ _ hb hc, hc, hd, hi⟩]
  · obtain ⟨p, q⟩ := TS.out_rank h1 h2 h3
    exact h out p q
end
end Sg
namespace Sg
open PySem PySem.Spec PyProof.Rows L2
abbrev TK := Addr × List Key
abbrev ordOf (B : Int) (p : TK) : Int := TS.code B (p.2.map numK)
abbrev refs (ks : List TK) : List V := ks.map fun p => V.ref p.1
abbrev refsV (ks : List TK) : List Value := ks.map fun p => Value.ref p.1
section
variable {P : Program} {w : World} {A : Around} {E : Value → Shared → Prop} {s : Shared}
/-- values that are a rearrangement of references are the references of a rearrangement -/
theorem pick_perm : ∀ {vs : List Value} {ks : List TK}, vs.Perm (refsV ks) → ∃ ks' : List TK, vs = refsV ks' ∧ ks'.Perm ks := by
  intro vs ks h
  generalize e : refsV ks = us at h
  induction h generalizing ks with
  | nil =>
    cases ks with
    | nil => exact ⟨[], rfl, .nil⟩
    | cons _ _ => cases e
  | @cons x l1 l2 h ih =>
    cases ks with
    | nil => cases e
    | cons p r =>
      obtain ⟨e1, e2⟩ := List.cons.inj e
      obtain ⟨k', e3, pm⟩ := ih e2
      exact ⟨p :: k', by rw [e3, ← e1]; rfl, .cons p pm⟩
  | swap x y l =>
    cases ks with
    | nil => cases e
    | cons p r =>
      cases r with
      | nil => cases (List.cons.inj e).2
      | cons q r =>
        obtain ⟨e1, e2⟩ := List.cons.inj e
        obtain ⟨e3, e4⟩ := List.cons.inj e2
        exact ⟨q :: p :: r, by rw [← e1, ← e3, ← e4]; rfl, .swap p q r⟩
  | trans h1 h2 ih1 ih2 =>
    obtain ⟨k2, e2, p2⟩ := ih2 e
    obtain ⟨k1, e1, p1⟩ := ih1 e2.symm
    exact ⟨k1, e1, p1.trans p2⟩
theorem ties_of {h : Heap} {B : Int} {d : Nat} {ks : List TK} (hk : ∀ p ∈ ks, IsTupleKey (mixKind P w) h p.2 p.1) (ht : ∀ p ∈ ks, TieK B d p.2) : Ties P w h B d (refsV ks) := fun v hv => by
  obtain ⟨p, hp, rfl⟩ := List.mem_map.mp hv
  exact ⟨p.1, p.2, rfl, hk p hp, ht p hp⟩
/-- a list just laid, sorted -/
theorem sort_new {ks : List TK} {d : Nat} {B : Int} {a : Addr} {n : Nat} {Q : PySem.Fin → Shared → Prop} (ho : s.heap.get? a = some (seqObj "list" (refsV ks).toArray n)) (h64 : ks.length < 64) (hk : ∀ p ∈ ks, IsTupleKey (mixKind P w) s.heap p.2 p.1) (ht : ∀ p ∈ ks, TieK B d p.2)
    (h : ∀ (out : Array Value) (ks' : List TK), out.toList = refsV ks' → ks'.Perm ks → ks'.Pairwise (fun p q => ordOf B p ≤ ordOf B q) → Q (.done (.ret .none)) { s with heap := sortedHeap s.heap a (refsV ks) out }) :
    wpAny (model P w) A (Builtin.«list.sort» ⟨[.ref a], []⟩) Q E s := by
  refine sort_ties ho (by rw [List.length_map]; exact h64) (ties_of hk ht) (fun v => TS.code B (numsOf s.heap v)) (fun v _ => rfl) fun out pm pw => ?_
  obtain ⟨ks', e, pk⟩ := pick_perm pm
  refine h out ks' e pk ?_
  rw [e] at pw
  refine List.Pairwise.imp_of_mem (fun {p q} hp hq hle => ?_) (List.pairwise_map.mp pw)
  rw [nums_at (hk p (pk.mem_iff.mp hp)), nums_at (hk q (pk.mem_iff.mp hq))] at hle
  exact hle
/-- sorted(xs) of a list -/
theorem sorted_list {l : Addr} {ks : List TK} {d : Nat} {B : Int} {Q : Value → Shared → Prop} (hl : s.heap.IsList l (refsV ks).toArray) (h64 : ks.length < 64) (hk : ∀ p ∈ ks, IsTupleKey (mixKind P w) s.heap p.2 p.1) (ht : ∀ p ∈ ks, TieK B d p.2)
    (h : ∀ (h' : Heap) (p : Addr) (c : Nat) (out : Array Value) (ks' : List TK), (∀ b o, s.heap.get? b = some o → h'.get? b = some o) → s.heap.objs.size ≤ p → h'.get? p = some (seqObj "list" out c) → out.toList = refsV ks' → ks'.Perm ks → ks'.Pairwise (fun p q => ordOf B p ≤ ordOf B q) → Q (.ref p) { s with heap := h' }) :
    wpAny (model P w) A (call (.builtin "sorted") [.ref l]) Q E s := by
  have hz : (refsV ks).length < 64 := by
    rw [List.length_map]
    exact h64
  refine Calls.call_function_entry kind_sorted plain_sorted entry_sorted (args_sorted1 _) ?_
  unfold Builtin.«sorted»
  refine wpAny_bind (m := checkCount "sorted" 1 1 _) (wpAny_pure (wpAny_bind (collect_list hl ?_ (by rw [sizeLine_eq]; omega))))
  refine wpAny_bind (wpAny_newList ?_ (by rw [sizeLine_eq]; omega))
  have sz : ((s.heap.push (seqObj "list" #[] 0)).update s.heap.objs.size (Obj.mapSeq (· ++ (refsV ks).toArray))).objs.size = s.heap.objs.size + 1 := by
    rw [Heap.size_update, size_push']
  have k0 : ∀ b o, s.heap.get? b = some o → ((s.heap.push (seqObj "list" #[] 0)).update s.heap.objs.size (Obj.mapSeq (· ++ (refsV ks).toArray))).get? b = some o := fun b o e => by
    have lt := Heap.lt_size e
    rw [Heap.get?_update_ne _ _ _ _ (Nat.ne_of_lt lt)]
    exact Heap.get?_push_of_some _ e
  show wpAny _ _ _ _ _ { s with heap := ((s.heap.push (seqObj "list" #[] 0)).update s.heap.objs.size (Obj.mapSeq (· ++ (refsV ks).toArray))).push (seqObj "list" (refsV ks).toArray 0) }
  generalize (s.heap.push (seqObj "list" #[] 0)).update s.heap.objs.size (Obj.mapSeq (· ++ (refsV ks).toArray)) = h0 at sz k0 ⊢
  have hoL : (h0.push (seqObj "list" (refsV ks).toArray 0)).get? h0.objs.size = some (seqObj "list" (refsV ks).toArray 0) := Heap.get?_push_size _ rfl
  have k1 : ∀ b o, s.heap.get? b = some o → (h0.push (seqObj "list" (refsV ks).toArray 0)).get? b = some o := fun b o e => Heap.get?_push_of_some _ (k0 b o e)
  refine wpAny_bind (wpAny_holding (wpAny_call_entry slot_list_sort ⟨_, hoL, rfl⟩ entry_list_sort (sort_new (s := { s with heap := h0.push (seqObj "list" (refsV ks).toArray 0) }) hoL h64 (fun p hp => tup_stay (hk p hp) k1) ht fun out ks' eo pk pw => ⟨_, rfl, ?_⟩) (args_list_sort _)))
  obtain ⟨c, hc⟩ := sortedHeap_at (out := out) hoL
  refine wpAny_pure ⟨_, rfl, h _ h0.objs.size c out ks' (fun b o e => ?_) (by omega) hc eo pk pw⟩
  have lt : b < h0.objs.size := Heap.lt_size (k0 b o e)
  rw [sortedHeap_old (Nat.ne_of_lt lt) (by rw [size_push']; exact Nat.lt_succ_of_lt lt)]
  exact k1 b o e
/-- sorted(s) of a set of ties -/
theorem sorted_set {a : Addr} {L : List TK} {es : Array (Int × Value)} {ep : Nat} {t : SetTable} {Q : Value → Shared → Prop} (R : Hs (mixKind P w) s.heap a L es ep t) (hh : A.handled = none) {d : Nat} {B : Int} (ht : ∀ p ∈ L, TieK B d p.2)
    (h : ∀ (s' : Shared) (p : Addr) (c : Nat) (out : Array Value) (L' : List TK), (∀ b o, s.heap.get? b = some o → s'.heap.get? b = some o) → s'.gens = s.gens → s'.os = s.os → s.heap.objs.size ≤ p → s'.heap.get? p = some (seqObj "list" out c) → out.toList = refsV L' → L'.Perm L →
      L'.Pairwise (fun p q => ordOf B p ≤ ordOf B q) → Q (.ref p) s') : wpAny (model P w) A (call (.builtin "sorted") [.ref a]) Q E s := by
  obtain ⟨o, ho, hex, hd⟩ := R.ob
  have hsz := size_of R.en
  have hfew := R.few
  refine Calls.call_function_entry kind_sorted plain_sorted entry_sorted (args_sorted1 _) ?_
  unfold Builtin.«sorted»
  refine wpAny_bind (m := checkCount "sorted" 1 1 _) (wpAny_pure ?_)
  refine wpAny_bind (collect_set (A := A.in1) hh ⟨o, ho, hex.1, hd⟩ R.fits (by unfold scanBound; omega) R.tab.ris R.led fun s1 vs k1 hz g1 o1 pm => ?_)
  have hes : es.toList.map (·.2) = refsV L := by
    rw [R.en]
    unfold ents
    rw [List.map_map]
    rfl
  rw [hes] at pm
  obtain ⟨L1, rfl, p1⟩ := pick_perm pm
  have hlen : L1.length < 64 := by
    rw [p1.length_eq]
    exact hfew
  refine wpAny_bind (wpAny_newList ?_ (by rw [List.length_map, sizeLine_eq]; omega))
  have hoL : (s1.heap.push (seqObj "list" (refsV L1).toArray 0)).get? s1.heap.objs.size = some (seqObj "list" (refsV L1).toArray 0) := Heap.get?_push_size _ rfl
  have k2 : ∀ b o, s.heap.get? b = some o → (s1.heap.push (seqObj "list" (refsV L1).toArray 0)).get? b = some o := fun b o e => Heap.get?_push_of_some _ (k1 b o e)
  refine wpAny_bind (wpAny_holding (wpAny_call_entry slot_list_sort ⟨_, hoL, rfl⟩ entry_list_sort (sort_new (s := { s1 with heap := s1.heap.push (seqObj "list" (refsV L1).toArray 0) }) hoL hlen (fun p hp => tup_stay (R.tup p (p1.mem_iff.mp hp)) k2) (fun p hp => ht p (p1.mem_iff.mp hp)) fun out L' eo pk pw => ⟨_, rfl, ?_⟩) (args_list_sort _)))
  obtain ⟨c, hc⟩ := sortedHeap_at (out := out) hoL
  refine wpAny_pure ⟨_, rfl, h _ s1.heap.objs.size c out L' (fun b u e => ?_) g1 o1 hz hc eo (pk.trans p1) pw⟩
  have lt := Heap.lt_size (k1 b u e)
  show (sortedHeap (s1.heap.push (seqObj "list" (refsV L1).toArray 0)) s1.heap.objs.size (refsV L1) out).get? b = some u
  rw [sortedHeap_old (Nat.ne_of_lt lt) (by rw [size_push']; exact Nat.lt_succ_of_lt lt)]
  exact k2 b u e
end
/-! ### over the layer -/
def SetX (P : Program) (w : World) (a : Addr) (L : List TK) : HO := .ext fun h => ∃ (es : Array (Int × Value)) (ep : Nat) (t : SetTable), (∃ o, h.get? a = some o ∧ o.ExactSet ∧ o.data = .set es ep t) ∧ es.toList = ents (mixKind P w) L ∧ TabOk t (hashes (mixKind P w) L) ∧ (L.map (·.2)).Nodup ∧
  (w.params.followText "set-order" = true ∨ t.led = true) ∧ L.length * 5 < t.mask * 3 ∧ L.length < 64
theorem setX_new {P : Program} {w : World} {H : Hp} {h : Heap} {a : Addr} {L : List TK} {es : Array (Int × Value)} {ep : Nat} {t : SetTable} (R : Hs (mixKind P w) h a L es ep t) : ObjOk P w H h a (SetX P w a L) := by
  obtain ⟨o, ho, r⟩ := R.ob
  refine ⟨⟨es, ep, t, ⟨o, ho, r⟩, R.en, R.tab, R.nd, R.led, R.room, R.few⟩, ⟨o, ho⟩, fun h1 h2 z k => ?_⟩
  obtain ⟨e1, e2, e3, ⟨u, hu, r'⟩, q⟩ := z
  exact ⟨e1, e2, e3, ⟨u, k u hu, r'⟩, q⟩
theorem keys_items {P : Program} {w : World} : ∀ {k : List Key} {us : List Value}, Vals (k.map kV) us → ItemsAre (mixKind P w) k us
  | [], _, .nil => .nil
  | .inl i :: k, _, .cons r t => by
    obtain ⟨tk, rfl⟩ := r
    exact .cons (mixKind_int P w i tk) (keys_items t)
  | .inr z :: k, _, .cons r t => by
    obtain ⟨tk, rfl⟩ := r
    exact .cons (mixKind_str P w z tk) (keys_items t)
theorem refs_vals : ∀ {ks : List TK} {us : List Value}, Vals (refs ks) us → us = refsV ks
  | [], _, .nil => rfl
  | p :: ks, _, .cons r t => by
    cases r
    rw [refs_vals t]
    rfl
theorem vals_refs : ∀ ks : List TK, Vals (refs ks) (refsV ks)
  | [] => .nil
  | p :: ks => .cons rfl (vals_refs ks)
section
variable {X : Cx} {pins : List (Addr × Obj)} {σ : L2.St} {H : Hp} {s : Shared}
theorem key_at (I : L2.Inv X pins σ H s) {b : Addr} {k : List Key} (h : SqT X.K H b (k.map kV)) : IsTupleKey (mixKind X.prog X.w) s.heap k b := by
  obtain ⟨its, r, ⟨o, ho, hc, n, hd⟩, _⟩ := I.tuple h
  exact ⟨o, its.toArray, n, ho, hc, hd, by simpa using keys_items r⟩
/-- set(xs) -/
def rSetX (K : PySem.W.Frag) (P : Program) (w : World) : List V → Hp → VK → Prop := fun xs H Q => ∃ l ks, xs = [V.ref l] ∧ (SqL K H l (refs ks) ∨ SqT K H l (refs ks)) ∧ (∀ p ∈ ks, SqT K H p.1 (p.2.map kV)) ∧ ks.length < 64 ∧
  ∀ a L, H a = none → (∀ p ∈ L, p ∈ ks) → (∀ p ∈ ks, p.2 ∈ L.map (·.2)) → Q (.ref a) (upd H a (SetX P w a L))
theorem cr_setX (hc : X.calm = true) (hu : X.A.units + 64 < cLine) : CallR X (.type "set") (rSetX X.K X.prog X.w) := by
  rintro pins s σ H xs us Q I r ⟨l, ks, rfl, hl, hk, hf, q⟩
  rw [Vals.ref1 r]
  have hn : H s.heap.objs.size = none := I.hok.fresh (Nat.le_refl _)
  have fin : ∀ (h' : Heap) (tk : Nat) (L : List TK) es ep t, Hs (mixKind X.prog X.w) h' s.heap.objs.size L es ep t → Brought ks ks.length L → (∀ b o, s.heap.get? b = some o → h'.get? b = some o) → EP X pins σ Q (.ref s.heap.objs.size) { s with heap := h', toks := tk } := fun h' tk L es ep t R g k =>
    ⟨.ref s.heap.objs.size, upd H s.heap.objs.size (SetX X.prog X.w s.heap.objs.size L), I.laid (t' := tk) k (Nat.le_refl _) (setX_new R), rfl, q _ L hn (fun p hp => List.mem_of_mem_take (g.of p hp)) fun p hp => g.all p (by rw [List.take_length]; exact hp)⟩
  rcases hl with hl | hl
  · obtain ⟨its, rv, pl, hz⟩ := I.list hl
    exact set_of_list ks (I.ok.hd hc) pl.isList (by simpa using refs_vals rv) (fun p hp => key_at I (hk p hp)) hf (by omega) fin
  · obtain ⟨its, rv, pl, hz⟩ := I.tuple hl
    exact set_of_tuple ks (I.ok.hd hc) pl (by simpa using refs_vals rv) (fun p hp => key_at I (hk p hp)) hf (by omega) fin
/-- sorted(s), s such a set, or a list of ties -/
def rSortX (K : PySem.W.Frag) (P : Program) (w : World) : List V → Hp → VK → Prop := fun vs H Q => ∃ a L d B, vs = [V.ref a] ∧ (H a = some (SetX P w a L) ∨ (SqL K H a (refs L) ∧ L.length < 64)) ∧ (∀ p ∈ L, SqT K H p.1 (p.2.map kV)) ∧ (∀ p ∈ L, TieK B d p.2) ∧
  ∀ L' p, L'.Perm L → L'.Pairwise (fun p q => ordOf B p ≤ ordOf B q) → (H a = some (SetX P w a L) → (L'.map (·.2)).Nodup) → H p = none → Q (.ref p) (upd H p (.lst (refs L')))
theorem cr_sortX (hc : X.calm = true) : CallR X (.builtin "sorted") (rSortX X.K X.prog X.w) := by
  rintro pins s σ H vs us Q I r ⟨a, L, d, B, rfl, ha, hk, ht, q⟩
  rw [Vals.ref1 r]
  by_cases hset : H a = some (SetX X.prog X.w a L)
  · obtain ⟨⟨es, ep, t, ob, en, tab, nd, led, room, few⟩, _, _⟩ := I.hok a _ hset
    refine sorted_set ⟨ob, en, tab, nd, fun p hp => key_at I (hk p hp), led, room, few⟩ (I.ok.hd hc) ht fun s' p c out L' k g o hp hg ho pm pw => ?_
    have hlen : (refs L').length ≤ sizeLine := by
      rw [List.length_map, pm.length_eq, sizeLine_eq]
      omega
    have hn : H p = none := I.hok.fresh hp
    have hv : Vals (refs L') out.toList := by
      rw [ho]
      exact vals_refs L'
    have J := I.call (h' := s'.heap) (g' := s'.gens) (d' := s'.drawn) (t' := s'.toks) (ch := []) (Un.laid k hp hn) (I.hok.laid (o := .lst (refs L')) k hp ⟨hlen, out.toList, c, hv, hg⟩) (by rw [g]; exact I.bare) (fun _ z => nomatch z)
    have e : s' = { s with heap := s'.heap, gens := s'.gens, drawn := s'.drawn, toks := s'.toks } := by
      obtain ⟨a1, a2, a3, a4, a5⟩ := s'
      dsimp only at o
      subst o
      rfl
    rw [e]
    exact ⟨.ref p, _, J, rfl, q L' p pm pw (fun _ => (pm.map (·.2)).nodup_iff.mpr nd) hn⟩
  · rcases ha with ha | ⟨hl, h64⟩
    · exact absurd ha hset
    · obtain ⟨its, rv, pl, hz⟩ := I.list hl
      have ei := refs_vals rv
      subst ei
      refine sorted_list pl.isList h64 (fun p hp => key_at I (hk p hp)) ht fun h' p c out L' k hp hg ho pm pw => ?_
      have hlen : (refs L').length ≤ sizeLine := by
        rw [List.length_map, pm.length_eq, sizeLine_eq]
        omega
      have hv : Vals (refs L') out.toList := by
        rw [ho]
        exact vals_refs L'
      exact ⟨.ref p, _, I.laid (o := .lst (refs L')) (t' := s.toks) k hp ⟨hlen, out.toList, c, hv, hg⟩, rfl, q L' p pm pw (fun z => absurd z hset) (I.hok.fresh hp)⟩
end
end Sg
/-! list(text), d.setdefault(tuple, ..), enumerate(tuple). -/
namespace PySem
open Sem (wp)
theorem enum_one {v : Value} {o : Obj} {H : Heap → Prop} (B : Begins v o H) :
    Meets (Builtin.«enumerate.__new__» ⟨[.type "enumerate", v], []⟩) (fun _ R s => H s.heap ∧ R (.ok (.ret (.ref (s.heap.push o).objs.size))) { s with heap := (s.heap.push o).push { cls := .type "enumerate", data := .fields #[.none, .bool false, .ref s.heap.objs.size, rawInt 0, .none, .none] } }) :=
  .of_wp fun prog w A R s h => by
    obtain ⟨hp, g, d, tk, os⟩ := s
    obtain ⟨h1, h⟩ := h
    have z0 := sub_enumerate
    have go : ∀ {A' : Around} {E : Value → Shared → Prop} {Q : Value → Shared → Prop}, Q (.ref hp.objs.size) ⟨hp.push o, g, d, tk, os⟩ → wpAny (model prog w) A' (pyIter v) Q E ⟨hp, g, d, tk, os⟩ := fun q => B.iter prog w _ _ ⟨hp, g, d, tk, os⟩ _ h1 q
    wp_walk using go
    refine wpAny_stack_any fun st => wpAny_pure ?_
    split
    · rename_i c _ _ _ _ _
      cases (c == Value.type "enumerate")
      · wp_walk using go
        exact ⟨_, rfl, h⟩
      · wp_walk using go
        exact ⟨_, rfl, h⟩
    · wp_walk using go
      exact ⟨_, rfl, h⟩
theorem enum_tuple {prog : Program} {w : World} {A : Around} {E : Value → Shared → Prop} {s : Shared} {l : Addr} {items : Array Value} {Q : Value → Shared → Prop} (ht : s.heap.IsTuple l items)
    (h : ∀ h', IsEnum h' (s.heap.objs.size + 1) s.heap.objs.size 0 .none → h'.IsTupleIter s.heap.objs.size l 0 → h'.IsTuple l items → (∀ b o, s.heap.get? b = some o → h'.get? b = some o) → Q (.ref (s.heap.objs.size + 1)) { s with heap := h' }) :
    wpAny (model prog w) A (call (.type "enumerate") [.ref l]) Q E s := by
  refine callType_new F.called_enumerate (by decide) (F.typeCall_enumerate_1 _) (F.newCall_enumerate_1 _) (fun ob => F.args_object_init_2 ob _) F.entry_enumerate_new (enum_one (begins_tuple l items)) ⟨ht, ?_⟩
  have hz : (s.heap.push { cls := .type "tuple_iterator", data := .fields #[.ref l, .int 0 0] }).objs.size = s.heap.objs.size + 1 := Heap.size_push ..
  have kk : ∀ b o, s.heap.get? b = some o → ((s.heap.push { cls := .type "tuple_iterator", data := .fields #[.ref l, .int 0 0] }).push { cls := .type "enumerate", data := .fields #[.none, .bool false, .ref s.heap.objs.size, rawInt 0, .none, .none] }).get? b = some o := fun b o e => Heap.get?_push_of_some _ (Heap.get?_push_of_some _ e)
  have he : IsEnum ((s.heap.push { cls := .type "tuple_iterator", data := .fields #[.ref l, .int 0 0] }).push { cls := .type "enumerate", data := .fields #[.none, .bool false, .ref s.heap.objs.size, rawInt 0, .none, .none] }) (s.heap.objs.size + 1) s.heap.objs.size 0 .none := by
    have q := Heap.get?_push_size (s.heap.push { cls := .type "tuple_iterator", data := .fields #[.ref l, .int 0 0] }) (o := { cls := .type "enumerate", data := .fields #[.none, .bool false, .ref s.heap.objs.size, rawInt 0, .none, .none] }) rfl
    rw [hz] at q
    exact q
  show _ ∧ _
  rw [hz]
  exact ⟨⟨_, he, rfl⟩, h _ he ⟨_, Heap.get?_push_of_some _ (Heap.get?_push_size _ rfl), rfl, rfl⟩ (ht.at fun o e => kk l o e) kk⟩
end PySem
namespace Sg
open PySem PySem.Spec PyProof.Rows L2
/-! ### list('abc') -/
def signsV (z : Str) : List V := z.cps.toList.map fun c => V.str ⟨#[c]⟩
def rListS : List V → Hp → VK → Prop := fun xs H Q => ∃ z, xs = [.str z] ∧ z.length ≤ 1000 ∧ ∀ p, H p = none → Q (.ref p) (upd H p (.lst (signsV z)))
theorem cr_listS {X : Cx} (hc : X.calm = true) : CallR X (.type "list") rListS := by
  rintro pins s σ H xs us Q I r ⟨z, rfl, hz, q⟩
  obtain ⟨u, rfl, ⟨t, rfl⟩⟩ := vals1 r
  have hn : z.cps.size ≤ sizeLine := Nat.le_of_lt (small1000 hz)
  refine call_list_str (hn := hn) (I.ok.hd hc) z t fun h' tk acc c kk ho hi => ?_
  have hlen : (signsV z).length = z.cps.size := by
    unfold signsV
    rw [List.length_map, Array.length_toList]
  have hv : Vals (signsV z) acc.toList := by
    refine vals_of_at ?_ fun j x u hx hu => ?_
    · rw [hlen, Array.length_toList, hi.1]
    · unfold signsV at hx
      rw [List.getElem?_map] at hx
      rw [Array.getElem?_toList] at hu
      have sg := hi.2 j u hu
      obtain ⟨cc, tt, hcc, rfl⟩ := sg
      rw [Array.getElem?_toList, hcc] at hx
      cases hx
      exact ⟨_, rfl⟩
  exact ⟨.ref s.heap.objs.size, _, I.laid (o := .lst (signsV z)) (t' := tk) kk (Nat.le_refl _) ⟨by rw [hlen]; exact hn, acc.toList, c, hv, ho⟩, rfl, q _ (I.hok.fresh (Nat.le_refl _))⟩
/-! ### d.setdefault(k, x), k a tuple -/
section
variable {X : Cx} {pins : List (Addr × Obj)} {σ : L2.St} {H : Hp} {s : Shared} {a b : Addr} {r : Value} {y : V} {k : List Key} {A : Around} {E : Value → Shared → Prop}
theorem d_setT {kvs : List (List Key × V)} {Q : Value → Shared → Prop} (hu : A.units + 1 < cLine) (I : L2.Inv X pins σ H s) (e : H a = some (.dT kvs)) (eb : H b = some (.tup (k.map kV))) (rd : L2.RelV y r) (hl : kvs.length < sizeLine)
    (h1 : ∀ v, valV kvs k = some v → ∀ (u : Value) (s' : Shared), L2.Inv X pins σ H s' → L2.RelV v u → Q u s') (h2 : valV kvs k = none → ∀ (u : Value) (s' : Shared), L2.Inv X pins σ (upd H a (.dT (putK kvs k y))) s' → L2.RelV y u → Q u s') :
    wpAny (model X.prog X.w) A (call (.builtin "dict.setdefault") [.ref a, .ref b, r]) Q E s := by
  obtain ⟨z, hd, xs, rel, dd⟩ := dt_of I.hok e
  have hz : xs.length ≤ sizeLine := by
    rw [← Paired.length rel]
    exact z
  have q := rel.val k
  refine call_setdefault_heap (hsz := hz) (tupleKind_room_in1 hu) (key_of I.hok eb) hd dd (fun p hp => ?_) fun hn h' dd' hs => ?_
  · rw [hp] at q
    cases q0 : valV kvs k with
    | none =>
      rw [q0] at q
      exact (show False from q).elim
    | some v0 =>
      rw [q0] at q
      exact h1 v0 q0 _ _ (I.tok _) q
  · rw [hn] at q
    cases q0 : valV kvs k with
    | some v0 =>
      rw [q0] at q
      exact (show False from q).elim
    | none =>
      have hl2 : (putK kvs k y).length ≤ sizeLine := by
        have := length_putK kvs k y
        omega
      obtain ⟨ob, es, ep, hq, g2, g3, g4, _, g5⟩ := dd'
      refine h2 q0 _ _ (d_write I (by rw [e]; exact True.intro) hs ⟨ob, hq⟩ ⟨hl2, hd, _, (rel.put k eb rd).keeps fun c ys ec => ?_, ob, es, ep, hq, g2, g3, g4, g5⟩) rd
      rw [upd_ne (ne_of ec e (fun z => nomatch z))]
      exact ec
end
def tSetT (td ty tx : TE) : TE := fun σ H Q => td σ H fun x G => ∃ a kv0, x = .ref a ∧ G a = some (.dT kv0) ∧ ty σ G fun y J => tx σ J fun z L => ∃ b kvs k, y = .ref b ∧ L a = some (.dT kvs) ∧ L b = some (.tup (k.map kV)) ∧ kvs.length < sizeLine ∧
  (∀ v, valV kvs k = some v → Q v L) ∧ (valV kvs k = none → Q z (upd L a (.dT (putK kvs k z))))
theorem pe_setT {X : Cx} {o e f : Expr} {td ty tx : TE} {apos cpos : Pos} (hu : X.A.units + 1 < cLine) (ho : PE X o td) (he : PE X e ty) (hf : PE X f tx) (m : M2 X o "setdefault" apos e f cpos) : PE X (.Call (.Attribute o "setdefault" apos) [e, f] [] cpos) (tSetT td ty tx) := by
  refine ⟨fun pins s σ H Q I h => wpAny_Call_method m.base m.few m.line PySem.F.plainAttrs_dict PySem.F.slot_dict_setdefault PySem.F.type_dict_setdefault (thn (ho.run pins s σ H _ I h) fun u s1 ⟨x, G, I1, rx, a, kv0, ex, d, q1⟩ => ?_)⟩
  subst ex
  obtain rfl : u = Value.ref a := rx
  obtain ⟨t1, t2, _⟩ := isD_at I1 (a := a) (by first | exact .inr ⟨_, .inl d⟩ | exact ⟨_, .inr d⟩ | exact .inr ⟨_, d⟩ | (unfold IsD; simp [d]))
  refine ⟨t1, t2, ?_⟩
  rw [m.trees]
  refine Calls.callWith_builtin rfl (Calls.evalArgs_plain (Calls.spliced_cons (thn (he.run pins s1 σ G _ I1 q1) fun iv s2 ⟨y, J, I2, ry, q2⟩ =>
    Calls.spliced_cons (thn (hf.run pins s2 σ J _ I2 q2) fun fv s3 ⟨z, L, I3, rz, b, kvs, k, ey, ea, eb, hl, q3, q4⟩ => Calls.spliced_nil ?_))))
  subst ey
  cases (show iv = Value.ref b from ry)
  exact d_setT hu I3 ea eb rz hl (fun v hv u' s4 I4 r' => ⟨v, _, I4, r', q3 v hv⟩) fun hn u' s4 I4 r' => ⟨z, _, I4, r', q4 hn⟩
/-! ### for i, x in enumerate(xs), xs a list or a tuple -/
def IteT (K : PySem.W.Frag) (a : Addr) : It :=
  ⟨fun i H => ∃ xs x, SqT K H a xs ∧ xs[i]? = some x, fun i H v H' => ∃ T x, v = .ref T ∧ H T = none ∧ H' = upd H T (.tup [.int (i : Nat), x]) ∧ ∀ xs, SqT K H a xs → xs[i]? = some x, fun i H => ∃ xs, SqT K H a xs ∧ xs.length ≤ i⟩
theorem walk_enumT {K : PySem.W.Frag} {a : Addr} {xs : List V} : Walk (IteT K a) xs.length (fun H => SqT K H a xs) (YPair (fun i => some (.int (i : Nat))) (fun i => xs[i]?)) where
  goes := fun i H hi g => ⟨xs, xs[i], g, List.getElem?_eq_getElem hi⟩
  stops := fun H g => ⟨xs, g, Nat.le_refl _⟩
  yields := fun i H v H' hi g y => by
    obtain ⟨T, x, e, n, eH, h1⟩ := y
    exact ⟨T, _, x, e, n, eH, rfl, h1 _ g⟩
theorem turn_enumT {P : Program} {w : World} {K : PySem.W.Frag} {elts : List Expr} {kk : Nat} {tpos : Pos} {its : List Value} (a e it : Addr) (hne : e ≠ it) (hea : e ≠ a) (hia : a ≠ it) :
    Turn P w K (.Tuple elts kk tpos) (IteT K a) [e, it] e (fun i h => (∃ old, IsEnum h e it ((i : Nat) : Int) old) ∧ h.IsTupleIter it a i) where
  mem := by simp
  obj := fun i h st b hb => by
    obtain ⟨⟨old, he⟩, ⟨o, ho, hc, hd⟩⟩ := st
    have z : b = e ∨ b = it := by simpa using hb
    rcases z with rfl | rfl
    · exact ⟨_, he, fun v q => nomatch q⟩
    · exact ⟨o, ho, fun v q => by rw [hd] at q; cases q⟩
  keep := fun i h h' st k => let ⟨⟨old, he⟩, hi⟩ := st; ⟨⟨old, k e (by simp) _ he⟩, hi.at fun o q => k it (by simp) o q⟩
  item := by
    intro X hP hw hK hc i pins s σ H E I hf st hg
    subst hP hw hK
    obtain ⟨⟨old, he⟩, hit⟩ := st
    obtain ⟨xs, x, hq, hx⟩ := hg
    obtain ⟨us, rv, pl, hz⟩ := I.tuple hq
    obtain ⟨u, hu, ru⟩ := rv.get hx
    have hel : e < s.heap.objs.size := Heap.lt_size he
    have hil : it < s.heap.objs.size := by
      obtain ⟨_, q, _⟩ := hit
      exact Heap.lt_size q
    have hiu : i < us.toArray.size := by
      have := (List.getElem?_eq_some_iff.mp hu).1
      simpa using this
    refine wpAny_pyNext_enum_itemD (Draws.tuple (show X.A.in1.handled = none from by rw [show X.A.in1.handled = X.A.handled from rfl]; exact I.ok.hd hc) it a hia us.toArray) he ⟨hit, pl⟩ hiu hne (by simp [hne, hea]) fun v h' tk hPv ho hst' hT hsz hk => ?_
    have ev : v = u := by
      have q : us.toArray[i]? = some v := hPv
      have q2 : us.toArray[i]? = some u := by simpa using hu
      exact Option.some.inj (q.symm.trans q2)
    subst ev
    refine ⟨_, rfl, wpAny_letOwnedTupleGo_enum (s := { s with heap := h', toks := tk + 1 }) ho fun h2 he' sb => ?_⟩
    have hT2 : h2.get? s.heap.objs.size = some { cls := .type "tuple", data := .seq #[.int i tk, v] } := (sb.2 _ (Nat.ne_of_gt hel)).trans hT
    have new : ObjOk X.prog X.w (upd H s.heap.objs.size (.tup [.int (i : Nat), x])) h2 s.heap.objs.size (.tup [.int (i : Nat), x]) := ⟨by show 2 ≤ sizeLine; decide, [.int i tk, v], .cons ⟨_, rfl⟩ (.cons ru .nil), ⟨_, hT2, rfl, _, rfl⟩⟩
    have J := I.turnedNew (t' := tk + 1) (ch := [e, it]) (h' := h2) (fun b ob hb q => (sb.2 b (fun z => hb (by simp [z]))).trans (hk b ob (fun z => hb (by simp [z])) (fun z => hb (by simp [z])) q)) hf (Nat.le_refl _) new
    refine ⟨.ref s.heap.objs.size, _, J, rfl, ⟨_, x, rfl, I.hok.fresh (Nat.le_refl _), rfl, fun ys hy => by rw [I.tuple_inj hy hq]; exact hx⟩, ⟨⟨v, ?_⟩, hst'.1.at fun o q => (sb.2 it (Ne.symm hne)).trans q⟩, fun b hb => ?_⟩
    · rw [show ((i + 1 : Nat) : Int) = (i : Int) + 1 by omega]
      exact he'
    · have lt : b < s.heap.objs.size := by
        have z : b = e ∨ b = it := by simpa using hb
        rcases z with rfl | rfl
        · exact hel
        · exact hil
      rw [upd_ne (Nat.ne_of_lt lt)]
      exact (hf b hb).1
  done := by
    intro X hP hw hK hc i pins s σ H E I hf st hg
    subst hP hw hK
    obtain ⟨⟨old, he⟩, hit⟩ := st
    obtain ⟨xs, hq, hx⟩ := hg
    obtain ⟨us, rv, pl, hz⟩ := I.tuple hq
    obtain ⟨f0, f1, f2, f3, f4, f5⟩ := hf it (by simp)
    have hn : us.toArray[i]? = none := by
      have := rv.length
      simp
      omega
    have hh : X.A.in1.handled = none := by
      rw [show X.A.in1.handled = X.A.handled from rfl]
      exact I.ok.hd hc
    have D : Draws X.prog X.w X.A.in1 it [it, a] i (fun _ _ => False) (fun j h => j = i ∧ h.IsTupleIter it a i ∧ h.IsTuple a us.toArray) := {
      live := fun j h st => let ⟨o, ho, _⟩ := st.2.1; ⟨o, ho⟩
      frame := fun j h h' st k => ⟨st.1, st.2.1.at fun o q => k it (by simp) o q, st.2.2.at fun o q => k a (by simp) o q⟩
      item := fun j s Q E hj st _ => absurd (st.1 ▸ hj) (Nat.lt_irrefl _)
      done := fun s Q E st hE => wpAny_nextOf_tuple_end hh st.2.1 st.2.2 hn hE }
    exact wpAny_pyNext_enum_endD D he ⟨rfl, hit, pl⟩ fun h' eb => ⟨rfl, I.turned (t' := s.toks) (fun b o hb q => eb b o hb q) f0 f1 f3 f4 f5⟩
  self := fun A i s Q E st h => let ⟨⟨_, he⟩, _⟩ := st; wpAny_pyIter_enum he h
def iEnA (K : PySem.W.Frag) (ta : TA) : TI := fun σ H R => ta σ H fun vs G => ∃ a xs, vs = [.ref a] ∧ ((SqL K G a xs ∧ R (Ite K a) G) ∨ (SqT K G a xs ∧ R (IteT K a) G))
theorem pi_enA {X : Cx} {e : Expr} {ta : TA} {p pos tpos : Pos} {elts : List Expr} {kk : Nat} (hg : Gl X "enumerate") (hm : X.mg "enumerate" = none) (ha : PA X [e] ta) (hs : starEach [e] X.env = [(false, eval e X.env)] := by rfl) :
    PI X (.Tuple elts kk tpos) (.Call (.Name "enumerate" p) [e] [] pos) (iEnA X.K ta) := by
  refine ⟨fun pins s σ H R I h => Call_ (ld_blt I hg hm boot_enumerate (PyProof.Rows.callWith_type1 (thn (ha.run pos pins s σ H _ I h) fun us s1 ⟨vs, G, I1, r1, q1⟩ => ?_) hs rfl))⟩
  obtain ⟨a, xs, ex, q1⟩ := q1
  subst ex
  obtain ⟨u, rfl, ru⟩ := vals1 r1
  cases ru
  have fresh : ∀ b, b ∈ [s1.heap.objs.size + 1, s1.heap.objs.size] → FpOk X pins G b := fun b hb => by
    have z : b = s1.heap.objs.size + 1 ∨ b = s1.heap.objs.size := by simpa using hb
    have le : s1.heap.objs.size ≤ b := by
      rcases z with z | z
      · rw [z]
        exact Nat.le_succ _
      · rw [z]
        exact Nat.le_refl _
    exact I1.fpOk le (I1.hok.fresh le)
  rcases q1 with ⟨hq, q⟩ | ⟨hq, q⟩
  · obtain ⟨its, rv, pl, hz⟩ := I1.list hq
    refine call_enumerate_list pl.isList fun h' he hit hsz hk => wpAny_pyIter_enum he ?_
    exact ⟨s1.heap.objs.size + 1, [s1.heap.objs.size + 1, s1.heap.objs.size], _, _, G, rfl, I1.kept (t' := s1.toks) hk, turn_enum a (s1.heap.objs.size + 1) s1.heap.objs.size, ⟨⟨.none, he⟩, hit, Nat.succ_ne_self _⟩, fresh, q⟩
  · obtain ⟨its, rv, pl, hz⟩ := I1.tuple hq
    have lt : a < s1.heap.objs.size := by
      obtain ⟨o, ho, _⟩ := id pl
      exact Heap.lt_size ho
    refine enum_tuple pl fun h' he hit hT hk => wpAny_pyIter_enum he ?_
    exact ⟨s1.heap.objs.size + 1, [s1.heap.objs.size + 1, s1.heap.objs.size], _, _, G, rfl, I1.kept (t' := s1.toks) hk, turn_enumT (its := its) a (s1.heap.objs.size + 1) s1.heap.objs.size (Nat.succ_ne_self _) (Nat.ne_of_gt (Nat.lt_succ_of_lt lt)) (Nat.ne_of_lt lt), ⟨⟨.none, he⟩, hit⟩, fresh, q⟩
end Sg
namespace Wb
open PySem PySem.Spec PyProof.Rows L2 RZ Sg
abbrev sInit : Stmt := inClass (topS 12) 0
abbrev sPoints : Stmt := inClass (topS 12) 1
abbrev sArrows : Stmt := inClass (topS 12) 2
abbrev sMarks : Stmt := inClass (topS 12) 3
abbrev sRA : Stmt := topS 13
abbrev sRM : Stmt := topS 14
abbrev sGat : Stmt := topS 15
theorem seq_set {te : TE} {i : Nat} {rest : TS} {D : Ends} {σ : L2.St} {H : Hp} (h : te σ H fun v H' => rest D (σ.set i (some v)) H') : tSeq (tAsg te (gName i)) rest D σ H := h
theorem ret_of {te : TE} {D : Ends} {σ : L2.St} {H : Hp} (h : te σ H D.rt) : tRet te D σ H := h
/-! ### ties -/
def AK (n : Int) (k : List Key) : Prop := ∃ (c : Nat) (x y : Int), k = [.inr ⟨#[c]⟩, .inl x, .inl y] ∧ (c = 97 ∨ c = 98 ∨ c = 99) ∧ 0 ≤ x ∧ x < n ∧ 0 ≤ y ∧ y < n
def MK (n : Int) (k : List Key) : Prop := ∃ (c : Nat) (x : Int), k = [.inr ⟨#[c]⟩, .inl x] ∧ (c = 112 ∨ c = 113 ∨ c = 114) ∧ 0 ≤ x ∧ x < n
theorem AK.tie {n : Int} {k : List Key} (h : AK n k) (hn : n ≤ 128) : TieK 128 3 k := by
  obtain ⟨c, x, y, rfl, hc, h1, h2, h3, h4⟩ := h
  refine ⟨c, [x, y], rfl, rfl, fun m hm => ?_⟩
  simp only [List.mem_cons, List.not_mem_nil, or_false] at hm
  rcases hm with rfl | rfl | rfl <;> omega
theorem MK.tie {n : Int} {k : List Key} (h : MK n k) (hn : n ≤ 128) : TieK 128 2 k := by
  obtain ⟨c, x, rfl, hc, h1, h2⟩ := h
  refine ⟨c, [x], rfl, rfl, fun m hm => ?_⟩
  simp only [List.mem_cons, List.not_mem_nil, or_false] at hm
  rcases hm with rfl | rfl <;> omega
/-- a list or tuple of ties stands at l -/
def TL (K : PySem.W.Frag) (H : Hp) (l : Addr) (ks : List TK) : Prop := (SqL K H l (refs ks) ∨ SqT K H l (refs ks)) ∧ ∀ p ∈ ks, SqT K H p.1 (p.2.map kV)
theorem TL.same {K : PySem.W.Frag} {H H' : Hp} {l : Addr} {ks : List TK} (s : Same H H') (h : TL K H l ks) : TL K H' l ks :=
  ⟨h.1.imp (fun z => s.seq z) fun z => same_tup s z, fun p hp => same_tup s (h.2 p hp)⟩
section
variable {P : Program} {w : World} {K : PySem.W.Frag} {mg : Str → Option Value} {base : Heap}
theorem in_abc {c : Nat} (h : c = 97 ∨ c = 98 ∨ c = 99) : inV (.str ⟨#[c]⟩) (signsV "abc") = true := by
  rcases h with rfl | rfl | rfl <;> decide +kernel
theorem in_pqr {c : Nat} (h : c = 112 ∨ c = 113 ∨ c = 114) : inV (.str ⟨#[c]⟩) (signsV "pqr") = true := by
  rcases h with rfl | rfl | rfl <;> decide +kernel
def spRA (K : PySem.W.Frag) : Sp := fun vs H Q _ => ∃ n l ks, vs = [.int n, .ref l] ∧ TL K H l ks ∧ (∀ p ∈ ks, AK n p.2) ∧ ∀ H', Same H H' → Q .non H'
theorem scRA : FnScope ["points", "arrows", "colours", "at", "colour", "start", "end"] ["points", "arrows"] (defScope sRA) := ⟨rfl, rfl, rfl, by decide +kernel, rfl, by decide +kernel, by decide +kernel⟩
set_option maxHeartbeats 2000000 in
theorem ok_ra {f : Addr} {fd : FuncData} {tk : Tok} (F : Fun K "refuse_bad_arrows" "refuse_bad_arrows" sRA f fd) (mli : mg "list" = none) (me : mg "enumerate" = none) (gC : mg "COLOURS" = some (.str "abc" tk)) : FnOk P w K mg base CX0 1 f fd ["points", "arrows"] (spRA K) := by
  refine F.ok scRA (fun vs H Q E h => ?_) (fun cdv A outer s H vs Q E hr h => ?_)
  · obtain ⟨n, l, ks, rfl, _⟩ := h
    rfl
  · obtain ⟨n, l, ks, rfl, hT, hA, KQ⟩ := h
    refine ⟨_, pss_cons (ps_set (i := 2) scRA.nd rfl (.inl rfl) (pe_callTy (cr_listS rfl) (by rfl) mli boot_list (pa_cons (pe_glob (v := .str "abc") (by rfl) gC ⟨_, rfl⟩) pa_nil)))
      (pss_one (ps_for PassesOwn.never rfl (pi_enA (by rfl) me (pa_cons (pv 1) pa_nil)) (pg_tup rfl (pgs_cons (pg_name (i := 3) scRA.nd rfl (.inl rfl)) (pgs_cons (pg_tup rfl (pgs_cons (pg_name (i := 4) scRA.nd rfl (.inl rfl)) (pgs_cons (pg_name (i := 5) scRA.nd rfl (.inl rfl)) (pgs_cons (pg_name (i := 6) scRA.nd rfl (.inl rfl)) pgs_nil)))) pgs_nil)))
        (pss_one (ps_if (PW.pt (pw_or (pt_cmpR op_notIn_seq (pv 4) (pv 2) (by rfl)) (pw_or (pt_not (pt_chain op_le op_lt pe_int (pv 5) (pv 0))) (pw_or1 (pt_not (pt_chain op_le op_lt pe_int (pv 6) (pv 0))))))) (pss_one ps_never) pss_nil)))), ?_⟩
    refine seq_set ⟨_, rfl, by decide, fun p np => ?_⟩
    have s0 : Same H (upd H p (.lst (signsV "abc"))) := same_upd np
    have e0 : (upd H p (.lst (signsV "abc"))) p = some (.lst (signsV "abc")) := upd_same
    generalize upd H p (.lst (signsV "abc")) = H0 at s0 e0 ⊢
    rcases hT.1 with hS | hS
    · refine ⟨_, rfl, l, refs ks, rfl, .inl ⟨s0.seq hS, for_it (walk_enum (K := K) (a := l) (xs := refs ks)) (fun i σ J => ∃ y3 y4 y5 y6, σ = [some (.int n), some (.ref l), some (.ref p), y3, y4, y5, y6] ∧ Same H0 J) ⟨_, _, _, _, rfl, Same.refl _⟩ ?_ ?_ ?_⟩⟩
      · rintro i σ J _ ⟨y3, y4, y5, y6, rfl, sm⟩
        exact sm.seq (s0.seq hS)
      · rintro i v σ J J' hi ⟨y3, y4, y5, y6, rfl, sm⟩ ⟨T, a1, a2, rfl, nT, rfl, e1, e2⟩
        cases e1
        have hik : i < ks.length := by
          rw [List.length_map] at hi
          exact hi
        have gi : (refs ks)[i]? = some (.ref ks[i].1) := by
          rw [List.getElem?_map, List.getElem?_eq_getElem hik]
          rfl
        cases e2.symm.trans gi
        have sT : Same J (upd J T (.tup [.int (i : Nat), .ref ks[i].1])) := same_upd nT
        have hm : ks[i] ∈ ks := List.getElem_mem hik
        have sq := same_tup (sm.trans sT) (same_tup s0 (hT.2 _ hm))
        obtain ⟨c, x, y, ek, hc, h1, h2, h3, h4⟩ := hA _ hm
        rw [ek] at sq
        refine ⟨T, [.int (i : Nat), .ref ks[i].1], rfl, SqT.of upd_same, rfl, .int (i : Nat), [.ref ks[i].1], rfl, .ref ks[i].1, [], rfl, ⟨ks[i].1, [.str ⟨#[c]⟩, .int x, .int y], rfl, sq, rfl, .str ⟨#[c]⟩, [.int x, .int y], rfl, .int x, [.int y], rfl, .int y, [], rfl, rfl, rfl, ?_⟩⟩
        refine ⟨_, rfl, _, rfl, p, signsV "abc", rfl, .inl (SqL.of (sT _ _ (sm _ _ e0))), rfl, by decide +kernel, _, rfl, ?_⟩
        rw [in_abc hc]
        refine iteF ?_
        refine ⟨_, rfl, _, _, rfl, rfl, _, rfl, ?_⟩
        rw [decide_eq_true (show (0 : Int) ≤ x from h1)]
        refine iteT ⟨_, rfl, _, _, rfl, rfl, _, rfl, ?_⟩
        rw [decide_eq_true (show x < n from h2)]
        refine iteF ?_
        refine ⟨_, rfl, _, _, rfl, rfl, _, rfl, ?_⟩
        rw [decide_eq_true (show (0 : Int) ≤ y from h3)]
        refine iteT ⟨_, rfl, _, _, rfl, rfl, _, rfl, ?_⟩
        rw [decide_eq_true (show y < n from h4)]
        refine iteF ?_
        exact ⟨_, _, _, _, rfl, sm.trans sT⟩
      · rintro σ J ⟨y3, y4, y5, y6, rfl, sm⟩
        exact KQ J (s0.trans sm)
    · refine ⟨_, rfl, l, refs ks, rfl, .inr ⟨same_tup s0 hS, for_it (walk_enumT (K := K) (a := l) (xs := refs ks)) (fun i σ J => ∃ y3 y4 y5 y6, σ = [some (.int n), some (.ref l), some (.ref p), y3, y4, y5, y6] ∧ Same H0 J) ⟨_, _, _, _, rfl, Same.refl _⟩ ?_ ?_ ?_⟩⟩
      · rintro i σ J _ ⟨y3, y4, y5, y6, rfl, sm⟩
        exact same_tup sm (same_tup s0 hS)
      · rintro i v σ J J' hi ⟨y3, y4, y5, y6, rfl, sm⟩ ⟨T, a1, a2, rfl, nT, rfl, e1, e2⟩
        cases e1
        have hik : i < ks.length := by
          rw [List.length_map] at hi
          exact hi
        have gi : (refs ks)[i]? = some (.ref ks[i].1) := by
          rw [List.getElem?_map, List.getElem?_eq_getElem hik]
          rfl
        cases e2.symm.trans gi
        have sT : Same J (upd J T (.tup [.int (i : Nat), .ref ks[i].1])) := same_upd nT
        have hm : ks[i] ∈ ks := List.getElem_mem hik
        have sq := same_tup (sm.trans sT) (same_tup s0 (hT.2 _ hm))
        obtain ⟨c, x, y, ek, hc, h1, h2, h3, h4⟩ := hA _ hm
        rw [ek] at sq
        refine ⟨T, [.int (i : Nat), .ref ks[i].1], rfl, SqT.of upd_same, rfl, .int (i : Nat), [.ref ks[i].1], rfl, .ref ks[i].1, [], rfl, ⟨ks[i].1, [.str ⟨#[c]⟩, .int x, .int y], rfl, sq, rfl, .str ⟨#[c]⟩, [.int x, .int y], rfl, .int x, [.int y], rfl, .int y, [], rfl, rfl, rfl, ?_⟩⟩
        refine ⟨_, rfl, _, rfl, p, signsV "abc", rfl, .inl (SqL.of (sT _ _ (sm _ _ e0))), rfl, by decide +kernel, _, rfl, ?_⟩
        rw [in_abc hc]
        refine iteF ?_
        refine ⟨_, rfl, _, _, rfl, rfl, _, rfl, ?_⟩
        rw [decide_eq_true (show (0 : Int) ≤ x from h1)]
        refine iteT ⟨_, rfl, _, _, rfl, rfl, _, rfl, ?_⟩
        rw [decide_eq_true (show x < n from h2)]
        refine iteF ?_
        refine ⟨_, rfl, _, _, rfl, rfl, _, rfl, ?_⟩
        rw [decide_eq_true (show (0 : Int) ≤ y from h3)]
        refine iteT ⟨_, rfl, _, _, rfl, rfl, _, rfl, ?_⟩
        rw [decide_eq_true (show y < n from h4)]
        refine iteF ?_
        exact ⟨_, _, _, _, rfl, sm.trans sT⟩
      · rintro σ J ⟨y3, y4, y5, y6, rfl, sm⟩
        exact KQ J (s0.trans sm)
def spRM (K : PySem.W.Frag) : Sp := fun vs H Q _ => ∃ n l ks, vs = [.int n, .ref l] ∧ TL K H l ks ∧ (∀ p ∈ ks, MK n p.2) ∧ ∀ H', Same H H' → Q .non H'
theorem scRM : FnScope ["points", "marks", "signs", "at", "mark", "point"] ["points", "marks"] (defScope sRM) := ⟨rfl, rfl, rfl, by decide +kernel, rfl, by decide +kernel, by decide +kernel⟩
set_option maxHeartbeats 2000000 in
theorem ok_rm {f : Addr} {fd : FuncData} {tk : Tok} (F : Fun K "refuse_bad_marks" "refuse_bad_marks" sRM f fd) (mli : mg "list" = none) (me : mg "enumerate" = none) (gC : mg "MARKS" = some (.str "pqr" tk)) : FnOk P w K mg base CX0 1 f fd ["points", "marks"] (spRM K) := by
  refine F.ok scRM (fun vs H Q E h => ?_) (fun cdv A outer s H vs Q E hr h => ?_)
  · obtain ⟨n, l, ks, rfl, _⟩ := h
    rfl
  · obtain ⟨n, l, ks, rfl, hT, hA, KQ⟩ := h
    refine ⟨_, pss_cons (ps_set (i := 2) scRM.nd rfl (.inl rfl) (pe_callTy (cr_listS rfl) (by rfl) mli boot_list (pa_cons (pe_glob (v := .str "pqr") (by rfl) gC ⟨_, rfl⟩) pa_nil)))
      (pss_one (ps_for PassesOwn.never rfl (pi_enA (by rfl) me (pa_cons (pv 1) pa_nil)) (pg_tup rfl (pgs_cons (pg_name (i := 3) scRM.nd rfl (.inl rfl)) (pgs_cons (pg_tup rfl (pgs_cons (pg_name (i := 4) scRM.nd rfl (.inl rfl)) (pgs_cons (pg_name (i := 5) scRM.nd rfl (.inl rfl)) pgs_nil))) pgs_nil)))
        (pss_one (ps_if (PW.pt (pw_or (pt_cmpR op_notIn_seq (pv 4) (pv 2) (by rfl)) (pw_or1 (pt_not (pt_chain op_le op_lt pe_int (pv 5) (pv 0)))))) (pss_one ps_never) pss_nil)))), ?_⟩
    refine seq_set ⟨_, rfl, by decide, fun p np => ?_⟩
    have s0 : Same H (upd H p (.lst (signsV "pqr"))) := same_upd np
    have e0 : (upd H p (.lst (signsV "pqr"))) p = some (.lst (signsV "pqr")) := upd_same
    generalize upd H p (.lst (signsV "pqr")) = H0 at s0 e0 ⊢
    rcases hT.1 with hS | hS
    · refine ⟨_, rfl, l, refs ks, rfl, .inl ⟨s0.seq hS, for_it (walk_enum (K := K) (a := l) (xs := refs ks)) (fun i σ J => ∃ y3 y4 y5, σ = [some (.int n), some (.ref l), some (.ref p), y3, y4, y5] ∧ Same H0 J) ⟨_, _, _, rfl, Same.refl _⟩ ?_ ?_ ?_⟩⟩
      · rintro i σ J _ ⟨y3, y4, y5, rfl, sm⟩
        exact sm.seq (s0.seq hS)
      · rintro i v σ J J' hi ⟨y3, y4, y5, rfl, sm⟩ ⟨T, a1, a2, rfl, nT, rfl, e1, e2⟩
        cases e1
        have hik : i < ks.length := by
          rw [List.length_map] at hi
          exact hi
        have gi : (refs ks)[i]? = some (.ref ks[i].1) := by
          rw [List.getElem?_map, List.getElem?_eq_getElem hik]
          rfl
        cases e2.symm.trans gi
        have sT : Same J (upd J T (.tup [.int (i : Nat), .ref ks[i].1])) := same_upd nT
        have hm : ks[i] ∈ ks := List.getElem_mem hik
        have sq := same_tup (sm.trans sT) (same_tup s0 (hT.2 _ hm))
        obtain ⟨c, x, ek, hc, h1, h2⟩ := hA _ hm
        rw [ek] at sq
        refine ⟨T, [.int (i : Nat), .ref ks[i].1], rfl, SqT.of upd_same, rfl, .int (i : Nat), [.ref ks[i].1], rfl, .ref ks[i].1, [], rfl, ⟨ks[i].1, [.str ⟨#[c]⟩, .int x], rfl, sq, rfl, .str ⟨#[c]⟩, [.int x], rfl, .int x, [], rfl, rfl, rfl, ?_⟩⟩
        refine ⟨_, rfl, _, rfl, p, signsV "pqr", rfl, .inl (SqL.of (sT _ _ (sm _ _ e0))), rfl, by decide +kernel, _, rfl, ?_⟩
        rw [in_pqr hc]
        refine iteF ?_
        refine ⟨_, rfl, _, _, rfl, rfl, _, rfl, ?_⟩
        rw [decide_eq_true (show (0 : Int) ≤ x from h1)]
        refine iteT ⟨_, rfl, _, _, rfl, rfl, _, rfl, ?_⟩
        rw [decide_eq_true (show x < n from h2)]
        refine iteF ?_
        exact ⟨_, _, _, rfl, sm.trans sT⟩
      · rintro σ J ⟨y3, y4, y5, rfl, sm⟩
        exact KQ J (s0.trans sm)
    · refine ⟨_, rfl, l, refs ks, rfl, .inr ⟨same_tup s0 hS, for_it (walk_enumT (K := K) (a := l) (xs := refs ks)) (fun i σ J => ∃ y3 y4 y5, σ = [some (.int n), some (.ref l), some (.ref p), y3, y4, y5] ∧ Same H0 J) ⟨_, _, _, rfl, Same.refl _⟩ ?_ ?_ ?_⟩⟩
      · rintro i σ J _ ⟨y3, y4, y5, rfl, sm⟩
        exact same_tup sm (same_tup s0 hS)
      · rintro i v σ J J' hi ⟨y3, y4, y5, rfl, sm⟩ ⟨T, a1, a2, rfl, nT, rfl, e1, e2⟩
        cases e1
        have hik : i < ks.length := by
          rw [List.length_map] at hi
          exact hi
        have gi : (refs ks)[i]? = some (.ref ks[i].1) := by
          rw [List.getElem?_map, List.getElem?_eq_getElem hik]
          rfl
        cases e2.symm.trans gi
        have sT : Same J (upd J T (.tup [.int (i : Nat), .ref ks[i].1])) := same_upd nT
        have hm : ks[i] ∈ ks := List.getElem_mem hik
        have sq := same_tup (sm.trans sT) (same_tup s0 (hT.2 _ hm))
        obtain ⟨c, x, ek, hc, h1, h2⟩ := hA _ hm
        rw [ek] at sq
        refine ⟨T, [.int (i : Nat), .ref ks[i].1], rfl, SqT.of upd_same, rfl, .int (i : Nat), [.ref ks[i].1], rfl, .ref ks[i].1, [], rfl, ⟨ks[i].1, [.str ⟨#[c]⟩, .int x], rfl, sq, rfl, .str ⟨#[c]⟩, [.int x], rfl, .int x, [], rfl, rfl, rfl, ?_⟩⟩
        refine ⟨_, rfl, _, rfl, p, signsV "pqr", rfl, .inl (SqL.of (sT _ _ (sm _ _ e0))), rfl, by decide +kernel, _, rfl, ?_⟩
        rw [in_pqr hc]
        refine iteF ?_
        refine ⟨_, rfl, _, _, rfl, rfl, _, rfl, ?_⟩
        rw [decide_eq_true (show (0 : Int) ≤ x from h1)]
        refine iteT ⟨_, rfl, _, _, rfl, rfl, _, rfl, ?_⟩
        rw [decide_eq_true (show x < n from h2)]
        refine iteF ?_
        exact ⟨_, _, _, rfl, sm.trans sT⟩
      · rintro σ J ⟨y3, y4, y5, rfl, sm⟩
        exact KQ J (s0.trans sm)
end
end Wb
namespace Wb
open PySem PySem.Spec PyProof.Rows L2 RZ Sg
/-! ### the rows gathered by their first two things -/
def k2 (p : TK) : List Key := p.2.take 2
def lastV (p : TK) : V := kV (p.2.getD 2 (.inl 0))
def gat (rows : List TK) (k : List Key) : List V := (rows.filter fun p => decide (k2 p = k)).map lastV
theorem gat_add (rows : List TK) (p : TK) (k : List Key) : gat (rows ++ [p]) k = if k2 p = k then gat rows k ++ [lastV p] else gat rows k := by
  unfold gat
  rw [List.filter_append, List.map_append]
  by_cases h : k2 p = k
  · rw [if_pos h]
    simp [h]
  · rw [if_neg h]
    simp [h]
theorem gat_len (rows : List TK) (k : List Key) : (gat rows k).length ≤ rows.length := by
  unfold gat
  rw [List.length_map]
  exact List.length_filter_le ..
/-- the dict at d, new since H0, holds by each key the last things of its rows -/
structure GD (H0 H : Hp) (d : Addr) (rows : List TK) : Prop where
  nd : H0 d = none
  ex : ∃ kvs, H d = some (.dT kvs) ∧ kvs.length ≤ rows.length ∧ (∀ k, valV kvs k = none → gat rows k = []) ∧ (∀ k v, valV kvs k = some v → ∃ q, v = .ref q ∧ H0 q = none ∧ H q = some (.lst (gat rows k))) ∧
    ∀ k j q, valV kvs k = some (.ref q) → valV kvs j = some (.ref q) → k = j
theorem GD.new {H0 H : Hp} {d p : Addr} {o : HO} {rows : List TK} (g : GD H0 H d rows) (h : H p = none) : GD H0 (upd H p o) d rows := by
  obtain ⟨kvs, e, l, h1, h2, h3⟩ := g.ex
  refine ⟨g.nd, kvs, by rw [upd_ne (ne_of_none e h)]; exact e, l, h1, fun k v hv => ?_, h3⟩
  obtain ⟨q, eq, nq, hq⟩ := h2 k v hv
  exact ⟨q, eq, nq, by rw [upd_ne (ne_of_none hq h)]; exact hq⟩
section
variable {P : Program} {w : World} {K : PySem.W.Frag} {mg : Str → Option Value} {base : Heap}
def R3 (k : List Key) : Prop := ∃ (z : Str) (x y : Int), k = [.inr z, .inl x, .inl y]
def spGat (K : PySem.W.Frag) : Sp := fun vs H Q _ => ∃ l ks, vs = [.ref l] ∧ SqL K H l (refs ks) ∧ (∀ p ∈ ks, SqT K H p.1 (p.2.map kV) ∧ R3 p.2) ∧ ks.length ≤ 1000 ∧ ∀ d H', Same H H' → GD H H' d ks → Q (.ref d) H'
theorem scG : FnScope ["rows", "lasts", "colour", "point", "last"] ["rows"] (defScope sGat) := ⟨rfl, rfl, rfl, by decide +kernel, rfl, by decide +kernel, by decide +kernel⟩
set_option maxHeartbeats 2000000 in
theorem ok_gat {f : Addr} {fd : FuncData} (F : Fun K "gathered" "gathered" sGat f fd) : FnOk P w K mg base CX0 1 f fd ["rows"] (spGat K) := by
  refine F.ok scG (fun vs H Q E h => ?_) (fun cdv A outer s H vs Q E hr h => ?_)
  · obtain ⟨l, ks, rfl, _⟩ := h
    rfl
  · obtain ⟨l, ks, rfl, hS, hK, hlen, KQ⟩ := h
    have hu := hu_of hr
    refine ⟨_, pss_cons (ps_set (i := 1) scG.nd rfl (.inl rfl) pe_dnewT)
      (pss_cons (ps_for PassesOwn.never rfl (pi_list (pv 0)) (pg_tup rfl (pgs_cons (pg_name (i := 2) scG.nd rfl (.inl rfl)) (pgs_cons (pg_name (i := 3) scG.nd rfl (.inl rfl)) (pgs_cons (pg_name (i := 4) scG.nd rfl (.inl rfl)) pgs_nil))))
        (pss_one (ps_expr (pe_bm PySem.F.plainAttrs_list PySem.F.slot_list_append PySem.F.type_list_append mt_append (pe_setT hu (pv 1) (pe_tup (pa_cons (pv 2) (pa_cons (pv 3) pa_nil))) (pe_lst pa_nil) ⟨rfl, rfl, rfl, rfl⟩) (pa_cons (pv 4) pa_nil)))))
      (pss_one (ps_ret (pv 1)))), ?_⟩
    refine seq_set fun d nd => ?_
    have s0 : Same H (upd H d (.dT [])) := same_upd nd
    have g0 : GD H (upd H d (.dT [])) d [] := ⟨nd, [], upd_same, Nat.le_refl _, (fun _ _ => rfl), (fun k v hv => by rw [valV_nil] at hv; cases hv), (fun k j q hv => by rw [valV_nil] at hv; cases hv)⟩
    generalize upd H d (.dT []) = H0 at s0 g0 ⊢
    refine ⟨_, rfl, l, rfl, ⟨_, s0.seq hS⟩, for_list (xs := refs ks) (fun i σ J => ∃ y2 y3 y4, σ = [some (.ref l), some (.ref d), y2, y3, y4] ∧ Same H J ∧ GD H J d (ks.take i)) ⟨_, _, _, rfl, s0, g0⟩ ?_ ?_ ?_⟩
    · rintro i σ J _ ⟨y2, y3, y4, _, sm, _⟩
      exact sm.seq hS
    · rintro i v σ J hv ⟨y2, y3, y4, rfl, sm, g⟩
      have hik : i < ks.length := by
        have := (List.getElem?_eq_some_iff.mp hv).1
        rwa [List.length_map] at this
      have gi : (refs ks)[i]? = some (.ref ks[i].1) := by
        rw [List.getElem?_map, List.getElem?_eq_getElem hik]
        rfl
      cases hv.symm.trans gi
      have hm : ks[i] ∈ ks := List.getElem_mem hik
      obtain ⟨hq, z, x, y, ek⟩ := hK _ hm
      have sq := same_tup sm hq
      rw [ek] at sq
      have ht : ks.take (i + 1) = ks.take i ++ [ks[i]] := by
        rw [List.take_add_one, List.getElem?_eq_getElem hik]
        rfl
      have e2 : k2 ks[i] = [.inr z, .inl x] := by
        unfold k2
        rw [ek]
        rfl
      have el : lastV ks[i] = .int y := by
        unfold lastV
        rw [ek]
        rfl
      refine ⟨ks[i].1, [.str z, .int x, .int y], rfl, sq, rfl, .str z, [.int x, .int y], rfl, .int x, [.int y], rfl, .int y, [], rfl, rfl, ?_⟩
      obtain ⟨kv0, e0, _⟩ := g.ex
      refine ⟨_, rfl, d, kv0, rfl, e0, _, rfl, _, rfl, by show 2 ≤ sizeLine; decide, fun T nT => ?_⟩
      have g1 := g.new (o := .tup [.str z, .int x]) nT
      have s1 : Same H (upd J T (.tup [.str z, .int x])) := sm.trans (same_upd nT)
      have eT : (upd J T (.tup [.str z, .int x])) T = some (.tup (([.inr z, .inl x] : List Key).map kV)) := upd_same
      generalize upd J T (.tup [.str z, .int x]) = J1 at g1 s1 eT ⊢
      refine ⟨Nat.zero_le _, fun q' nq => ?_⟩
      have g2 := g1.new (o := .lst []) nq
      have s2 : Same H (upd J1 q' (.lst [])) := s1.trans (same_upd nq)
      have eT2 := same_upd (o := .lst []) nq _ _ eT
      have eq' : (upd J1 q' (.lst [])) q' = some (.lst []) := upd_same
      have hq0 : H q' = none := s1.free nq
      have fr : ∀ k q, (∃ kvs, (upd J1 q' (.lst [])) d = some (.dT kvs) ∧ valV kvs k = some (.ref q)) → q ≠ q' := by
        rintro k q ⟨kvs, ekv, hv2⟩ rfl
        obtain ⟨kv1, e1, _, _, h2, _⟩ := g1.ex
        have e1' := same_upd (o := .lst []) nq _ _ e1
        rw [ekv] at e1'
        cases e1'
        obtain ⟨q1, z1, _, hq1⟩ := h2 k _ hv2
        cases z1
        rw [nq] at hq1
        cases hq1
      generalize upd J1 q' (.lst []) = J2 at g2 s2 eT2 eq' fr ⊢
      obtain ⟨kvs, e1, hl, h1, h2, h3⟩ := g2.ex
      have ltn : (ks.take i).length ≤ 1000 := by
        rw [List.length_take]
        omega
      refine ⟨T, kvs, [.inr z, .inl x], rfl, e1, eT2, small1000 (by omega), fun v hv2 => ?_, fun hn => ?_⟩
      · obtain ⟨q, rfl, nq0, hq2⟩ := h2 _ _ hv2
        refine ⟨.inl ⟨rfl, _, SqL.of hq2⟩, _, rfl, q, _, _, rfl, rfl, hq2, Nat.lt_of_le_of_lt (gat_len _ _) (small1000 ltn), ?_⟩
        have dq : d ≠ q := ne_of e1 hq2 (fun z => nomatch z)
        refine ⟨_, _, _, rfl, fun c o ec => ?_, ⟨nd, kvs, by rw [upd_ne dq]; exact e1, by rw [ht, List.length_append]; exact Nat.le_succ_of_le hl, fun k hk => ?_, fun k u hk => ?_, h3⟩⟩
        · rw [upd_ne (ne_of_none ec nq0)]
          exact s2 _ _ ec
        · rw [ht, gat_add, e2, if_neg (fun z => by rw [← z, hv2] at hk; cases hk)]
          exact h1 k hk
        · obtain ⟨q1, rfl, n1, hq1⟩ := h2 k u hk
          refine ⟨q1, rfl, n1, ?_⟩
          rw [ht, gat_add, e2, el]
          by_cases hkk : ([.inr z, .inl x] : List Key) = k
          · subst hkk
            rw [hv2] at hk
            cases hk
            rw [upd_same, if_pos rfl]
          · rw [if_neg hkk, upd_ne (fun z => hkk (h3 _ _ q hv2 (by rw [← z]; exact hk)))]
            exact hq1
      · have g00 := h1 _ hn
        have dq : d ≠ q' := ne_of e1 eq' (fun z => nomatch z)
        have ed : (upd J2 d (.dT (putK kvs [.inr z, .inl x] (.ref q')))) q' = some (.lst []) := by
          rw [upd_ne dq.symm]
          exact eq'
        refine ⟨.inl ⟨rfl, _, SqL.of ed⟩, _, rfl, q', _, _, rfl, rfl, ed, by decide, ?_⟩
        refine ⟨_, _, _, rfl, fun c o ec => ?_, ⟨nd, putK kvs [.inr z, .inl x] (.ref q'), by rw [upd_ne dq, upd_same], ?_, fun k hk => ?_, fun k u hk => ?_, fun k j q hk hj => ?_⟩⟩
        · rw [upd_ne (ne_of_none ec hq0), upd_ne (ne_of_none ec nd)]
          exact s2 _ _ ec
        · rw [putK_new _ hn, ht, List.length_append, List.length_append]
          exact Nat.succ_le_succ hl
        · rw [valV_put] at hk
          by_cases hkk : k = ([.inr z, .inl x] : List Key)
          · rw [if_pos hkk] at hk
            cases hk
          · rw [if_neg hkk] at hk
            rw [ht, gat_add, e2, if_neg (fun z => hkk z.symm)]
            exact h1 k hk
        · rw [valV_put] at hk
          by_cases hkk : k = ([.inr z, .inl x] : List Key)
          · rw [if_pos hkk] at hk
            cases hk
            refine ⟨q', rfl, hq0, ?_⟩
            rw [upd_same, ht, gat_add, e2, if_pos hkk.symm, hkk, g00, el]
          · rw [if_neg hkk] at hk
            obtain ⟨q1, rfl, n1, hq1⟩ := h2 k u hk
            refine ⟨q1, rfl, n1, ?_⟩
            rw [upd_ne (fr k q1 ⟨kvs, e1, hk⟩), upd_ne (ne_of hq1 e1 (fun z => nomatch z)), ht, gat_add, e2, if_neg (fun z => hkk z.symm)]
            exact hq1
        · rw [valV_put] at hk hj
          by_cases hkk : k = ([.inr z, .inl x] : List Key)
          · rw [if_pos hkk] at hk
            cases hk
            by_cases hjj : j = ([.inr z, .inl x] : List Key)
            · rw [hkk, hjj]
            · rw [if_neg hjj] at hj
              exact absurd rfl (fr j _ ⟨kvs, e1, hj⟩)
          · rw [if_neg hkk] at hk
            by_cases hjj : j = ([.inr z, .inl x] : List Key)
            · rw [if_pos hjj] at hj
              cases hj
              exact absurd rfl (fr k _ ⟨kvs, e1, hk⟩)
            · rw [if_neg hjj] at hj
              exact h3 k j q hk hj
    · rintro σ J ⟨y2, y3, y4, rfl, sm, g⟩
      rw [List.length_map, List.take_length] at g
      exact ⟨_, rfl, KQ d J sm g⟩
end
end Wb
namespace Wb
open PySem PySem.Spec PyProof.Rows L2 RZ Sg
/-! ### a web as it stands -/
def flds (pl ar mr ow bw : Addr) : List (Str × V) := putF "backward" (.ref bw) (putF "onward" (.ref ow) (putF "mark_rows" (.ref mr) (putF "arrow_rows" (.ref ar) (putF "places" (.ref pl) []))))
theorem flds_eq (pl ar mr ow bw : Addr) : flds pl ar mr ow bw = ([("places", V.ref pl), ("arrow_rows", V.ref ar), ("mark_rows", V.ref mr), ("onward", V.ref ow), ("backward", V.ref bw)] : List (Str × V)) := by
  rfl
/-- a dict of lists by two things -/
def GX (H : Hp) (d : Addr) (f : List Key → List V) : Prop := ∃ kvs, H d = some (.dT kvs) ∧ (∀ k, valV kvs k = none → f k = []) ∧ ∀ k v, valV kvs k = some v → ∃ q, v = .ref q ∧ H q = some (.lst (f k))
theorem GX.same {H H' : Hp} {d : Addr} {f : List Key → List V} (s : Same H H') (g : GX H d f) : GX H' d f := by
  obtain ⟨kvs, e, h1, h2⟩ := g
  refine ⟨kvs, s _ _ e, h1, fun k v hv => ?_⟩
  obtain ⟨q, eq, hq⟩ := h2 k v hv
  exact ⟨q, eq, s _ _ hq⟩
theorem GD.gx {H0 H : Hp} {d : Addr} {rows : List TK} (g : GD H0 H d rows) : GX H d (gat rows) := by
  obtain ⟨kvs, e, _, h1, h2, _⟩ := g.ex
  refine ⟨kvs, e, h1, fun k v hv => ?_⟩
  obtain ⟨q, eq, _, hq⟩ := h2 k v hv
  exact ⟨q, eq, hq⟩
def swK (k : List Key) : List Key := [k.getD 0 (.inl 0), k.getD 2 (.inl 0), k.getD 1 (.inl 0)]
theorem Xt.put {b : Addr} {H H' : Hp} {o : HO} (x : Xt b H H') : Xt b H (upd H' b o) := fun c u hc e => by
  rw [upd_ne hc]
  exact x c u hc e
theorem GX.xt {x C dx d : Addr} {fs : List (Str × V)} {H H' : Hp} {f : List Key → List V} (s : Xt x H H') (hx : H x = some (.ins C dx fs)) (g : GX H d f) : GX H' d f := by
  obtain ⟨kvs, e, h1, h2⟩ := g
  refine ⟨kvs, s _ _ (ne_of e hx (fun z => nomatch z)) e, h1, fun k v hv => ?_⟩
  obtain ⟨q, eq, hq⟩ := h2 k v hv
  exact ⟨q, eq, s _ _ (ne_of hq hx (fun z => nomatch z)) hq⟩
theorem xt_tup' {K : PySem.W.Frag} {x p : Addr} {ys : List V} {H H' : Hp} {xs : List V} (s : Xt x H H') (hx : H x = some (.lst ys)) (h : SqT K H p xs) : SqT K H' p xs := by
  rcases h with (h | ⟨o, h⟩) | h
  · exact .inl (.inl (s _ _ (ne_of h hx (fun z => nomatch z)) h))
  · exact .inl (.inr ⟨o, s _ _ (ne_of h hx (fun z => nomatch z)) h⟩)
  · exact .inr h
def GXn (H0 H : Hp) (d : Addr) (f : List Key → List V) : Prop := H0 d = none ∧ ∃ kvs, H d = some (.dT kvs) ∧ (∀ k, valV kvs k = none → f k = []) ∧ ∀ k v, valV kvs k = some v → ∃ q, v = .ref q ∧ H0 q = none ∧ H q = some (.lst (f k))
theorem GXn.gx {H0 H : Hp} {d : Addr} {f : List Key → List V} (g : GXn H0 H d f) : GX H d f := by
  obtain ⟨_, kvs, e, h1, h2⟩ := g
  refine ⟨kvs, e, h1, fun k v hv => ?_⟩
  obtain ⟨q, eq, _, hq⟩ := h2 k v hv
  exact ⟨q, eq, hq⟩
theorem GXn.keep {H0 H H' : Hp} {d : Addr} {f : List Key → List V} (g : GXn H0 H d f) (k : ∀ c o, H0 c = none → H c = some o → H' c = some o) : GXn H0 H' d f := by
  obtain ⟨n0, kvs, e, h1, h2⟩ := g
  refine ⟨n0, kvs, k _ _ n0 e, h1, fun z v hv => ?_⟩
  obtain ⟨q, eq, nq, hq⟩ := h2 z v hv
  exact ⟨q, eq, nq, k _ _ nq hq⟩
theorem GD.gxn {x C dx d : Addr} {fs : List (Str × V)} {H J J' : Hp} {rows : List TK} (g : GD J J' d rows) (s : Xt x H J) (hx : J x = some (.ins C dx fs)) : GXn H J' d (gat rows) := by
  obtain ⟨kvs, e, _, h1, h2, _⟩ := g.ex
  refine ⟨s.free (ne_of_none hx g.nd).symm g.nd, kvs, e, h1, fun k v hv => ?_⟩
  obtain ⟨q, eq, nq, hq⟩ := h2 k v hv
  exact ⟨q, eq, s.free (ne_of_none hx nq).symm nq, hq⟩
structure WebAt (C : Addr) (H : Hp) (x : Addr) (n : Int) (As Ms : List TK) : Prop where
  ex : ∃ dx pl ar mr ow bw, H x = some (.ins C dx (flds pl ar mr ow bw)) ∧ H pl = some (.lst (rgV 0 n)) ∧ H ar = some (.lst (refs As)) ∧ H mr = some (.lst (refs Ms)) ∧ GX H ow (gat As) ∧ ∃ Bs : List TK, Bs.map (·.2) = As.map (fun p => swK p.2) ∧ GX H bw (gat Bs)
theorem WebAt.same {C : Addr} {H H' : Hp} {x : Addr} {n : Int} {As Ms : List TK} (s : Same H H') (w : WebAt C H x n As Ms) : WebAt C H' x n As Ms := by
  obtain ⟨dx, pl, ar, mr, ow, bw, h1, h2, h3, h4, h5, Bs, h6, h7⟩ := w.ex
  exact ⟨dx, pl, ar, mr, ow, bw, s _ _ h1, s _ _ h2, s _ _ h3, s _ _ h4, h5.same s, Bs, h6, h7.same s⟩
/-- a web all of whose parts are new since H0 -/
def WebOwn (C : Addr) (H0 H : Hp) (x : Addr) (n : Int) (As Ms : List TK) : Prop := ∀ H', (∀ c o, H0 c = none ∨ c = x → H c = some o → H' c = some o) → WebAt C H' x n As Ms
/-- L holds the keys of ks, each once, rising -/
structure Srt (ks L : List TK) : Prop where
  of : ∀ p ∈ L, p ∈ ks
  all : ∀ p ∈ ks, p.2 ∈ L.map (·.2)
  nd : (L.map (·.2)).Nodup
  ris : L.Pairwise fun p q => ordOf 128 p ≤ ordOf 128 q
structure WT (K : PySem.W.Frag) (mg : Str → Option Value) (C : Addr) : Prop where
  cl : Cls K C
  n1 : NoAttr K C "places"
  n2 : NoAttr K C "arrow_rows"
  n3 : NoAttr K C "mark_rows"
  n4 : NoAttr K C "onward"
  n5 : NoAttr K C "backward"
  list : mg "list" = none
  range : mg "range" = none
  set : mg "set" = none
  sorted : mg "sorted" = none
  most : ∃ t, mg "MOST_POINTS" = some (.int 81 t)
theorem xt_tup {K : PySem.W.Frag} {x C dx p : Addr} {fs : List (Str × V)} {H H' : Hp} {xs : List V} (s : Xt x H H') (hx : H x = some (.ins C dx fs)) (h : SqT K H p xs) : SqT K H' p xs := by
  rcases h with (h | ⟨o, h⟩) | h
  · exact .inl (.inl (s _ _ (ne_of h hx (fun z => nomatch z)) h))
  · exact .inl (.inr ⟨o, s _ _ (ne_of h hx (fun z => nomatch z)) h⟩)
  · exact .inr h
theorem xt_lst {K : PySem.W.Frag} {x C dx p : Addr} {fs : List (Str × V)} {H H' : Hp} {xs : List V} (s : Xt x H H') (hx : H x = some (.ins C dx fs)) (h : SqL K H p xs) : SqL K H' p xs := by
  rcases h with (h | ⟨o, h⟩) | h
  · exact .inl (.inl (s _ _ (ne_of h hx (fun z => nomatch z)) h))
  · exact .inl (.inr ⟨o, s _ _ (ne_of h hx (fun z => nomatch z)) h⟩)
  · exact .inr h
theorem TL.xt {K : PySem.W.Frag} {x C dx l : Addr} {fs : List (Str × V)} {H H' : Hp} {ks : List TK} (s : Xt x H H') (hx : H x = some (.ins C dx fs)) (h : TL K H l ks) : TL K H' l ks :=
  ⟨h.1.imp (fun z => xt_lst s hx z) fun z => xt_tup s hx z, fun p hp => xt_tup s hx (h.2 p hp)⟩
theorem seq_fld {K : PySem.W.Frag} {tv ta : TE} {f : Str} {rest : TS} {D : Ends} {σ : L2.St} {H : Hp} (h : tv σ H fun y H1 => ta σ H1 fun x H2 => ∃ a C dx fs, x = .ref a ∧ H2 a = some (.ins C dx fs) ∧ Cls K C ∧ NoAttr K C f ∧ fs.length < 1000 ∧ rest D σ (upd H2 a (.ins C dx (putF f y fs)))) : tSeq (sFld K ta tv f) rest D σ H := h
theorem seq_drop {te : TE} {rest : TS} {D : Ends} {σ : L2.St} {H : Hp} (h : te σ H fun _ H1 => rest D σ H1) : tSeq (tDrop te) rest D σ H := h
theorem seq_if {c : TT} {t u rest : TS} {D : Ends} {σ : L2.St} {H : Hp} (h : c σ H fun b H1 => if b = true then tSeq t rest D σ H1 else tSeq u rest D σ H1) : tSeq (tIfS c t u) rest D σ H := h
theorem seq_next {rest : TS} {D : Ends} {σ : L2.St} {H : Hp} (h : rest D σ H) : tSeq tNext rest D σ H := h
theorem Srt.len {ks L : List TK} (h : Srt ks L) : L.length ≤ ks.length := by
  have := List.Nodup.length_le_of_subset h.nd (l₂ := ks.map (·.2)) (fun z hz => by
    obtain ⟨p, hp, rfl⟩ := List.mem_map.mp hz
    exact List.mem_map.mpr ⟨p, h.of p hp, rfl⟩)
  rwa [List.length_map, List.length_map] at this
theorem read_ss {P : Program} {w : World} {K : PySem.W.Frag} {i d : Nat} {σ : L2.St} {H : Hp} {Q : VK} {l : Addr} {ks : List TK} (hv : σ[i]? = some (some (.ref l))) (hT : TL K H l ks) (h64 : ks.length < 64) (tie : ∀ p ∈ ks, TieK 128 d p.2)
    (q : ∀ L p H', Srt ks L → Same H H' → H p = none → H' p = some (.lst (refs L)) → Q (.ref p) H') : tCB (rSortX K P w) (tCons (tCB (rSetX K P w) (tCons (tVar i) tNil)) tNil) σ H Q := by
  refine ⟨_, hv, l, ks, rfl, hT.1, hT.2, h64, fun a L na hL1 hL2 => ?_⟩
  have s1 : Same H (upd H a (SetX P w a L)) := same_upd na
  have e1 : (upd H a (SetX P w a L)) a = some (SetX P w a L) := upd_same
  generalize upd H a (SetX P w a L) = H1 at s1 e1 ⊢
  refine ⟨a, L, d, 128, rfl, .inl e1, fun p hp => same_tup s1 (hT.2 p (hL1 p hp)), fun p hp => tie p (hL1 p hp), fun L' p pm ris nd np => ?_⟩
  refine q L' p _ ⟨fun z hz => hL1 z (pm.mem_iff.mp hz), fun z hz => (pm.map _).mem_iff.mpr (hL2 z hz), nd e1, ris⟩ (s1.trans (same_upd np)) (s1.free np) upd_same
section
variable {P : Program} {w : World} {K : PySem.W.Frag} {mg : Str → Option Value} {base : Heap}
def spInit (K : PySem.W.Frag) (C : Addr) : Sp := fun vs H Q _ => ∃ x dx n la lm ka km, vs = [.ref x, .int n, .ref la, .ref lm] ∧ H x = some (.ins C dx []) ∧ 0 ≤ n ∧ n ≤ 81 ∧ TL K H la ka ∧ (∀ p ∈ ka, AK n p.2) ∧ ka.length < 64 ∧ TL K H lm km ∧ (∀ p ∈ km, MK n p.2) ∧ km.length < 64 ∧
  ∀ H' As Ms, WebOwn C H H' x n As Ms → Srt ka As → Srt km Ms → Xt x H H' → Q .non H'
abbrev NI : List Str := ["self", "points", "arrows", "marks", "colour", "start", "end"]
theorem scI : FnScope NI ["self", "points", "arrows", "marks"] (defScope sInit) := ⟨rfl, rfl, rfl, by decide +kernel, rfl, by decide +kernel, by decide +kernel⟩
theorem AK.r3 {n : Int} {k : List Key} (h : AK n k) : R3 k := by
  obtain ⟨c, x, y, e, _⟩ := h
  exact ⟨_, x, y, e⟩
set_option maxHeartbeats 4000000 in
theorem ok_init {f C fA fM fG : Addr} {fd dA dM dG : FuncData} {dvs : List V} {kws : List (Str × V)} (F : FunD K "__init__" "Web.__init__" (defArgs sInit) (defBody sInit) (defScope sInit) dvs kws f fd) (T : WT K mg C) (oA : Df P w K mg base 1 "refuse_bad_arrows" ["points", "arrows"] (spRA K) fA dA)
    (oM : Df P w K mg base 1 "refuse_bad_marks" ["points", "marks"] (spRM K) fM dM) (oG : Df P w K mg base 1 "gathered" ["rows"] (spGat K) fG dG) : FnOk P w K mg base CX0 2 f fd ["self", "points", "arrows", "marks"] (spInit K C) := by
  obtain ⟨tkM, gM⟩ := T.most
  refine F.ok scI (fun vs H Q E h => ?_) (fun cdv A outer s H vs Q E hr h => ?_)
  · obtain ⟨x, dx, n, la, lm, ka, km, rfl, _⟩ := h
    rfl
  · obtain ⟨x, dx, n, la, lm, ka, km, rfl, hx, n0, n1, ta, ga, la64, tm, gm, lm64, KQ⟩ := h
    have hu : (A.deeper (envOfC "Web.__init__" (defScope sInit) s.heap.objs.size f cdv)).units + 64 < cLine := by
      have := hr.un
      omega
    refine ⟨_, PSs.nox (pss_cons (ps_if (pt_not (pt_chain op_le op_le pe_int (pv 1) (pe_glob (v := .int 81) (by rfl) gM ⟨_, rfl⟩))) (pss_one ps_never) pss_nil)
      (pss_cons (ps_expr (pe_call oA.ok hr (by rfl) oA.gl oA.kp oA.bd .nil pass0 (pa_cons (pv 1) (pa_cons (pv 2) pa_nil))))
      (pss_cons (ps_expr (pe_call oM.ok hr (by rfl) oM.gl oM.kp oM.bd .nil pass0 (pa_cons (pv 1) (pa_cons (pv 3) pa_nil))))
      (pss_cons (ps_fld (pv 0) (pe_listRg rfl (by rfl) T.list (prg_1 (by rfl) T.range (pv 1))) rfl)
      (pss_cons (ps_fld (pv 0) (pe_callB (cr_sortX rfl) (by rfl) T.sorted (by decide +kernel) (pa_cons (pe_callTy (cr_setX rfl hu) (by rfl) T.set (by decide +kernel) (pa_cons (pv 2) pa_nil)) pa_nil)) rfl)
      (pss_cons (ps_fld (pv 0) (pe_callB (cr_sortX rfl) (by rfl) T.sorted (by decide +kernel) (pa_cons (pe_callTy (cr_setX rfl hu) (by rfl) T.set (by decide +kernel) (pa_cons (pv 3) pa_nil)) pa_nil)) rfl)
      (pss_cons (ps_fld (pv 0) (pe_call oG.ok hr (by rfl) oG.gl oG.kp oG.bd .nil pass0 (pa_cons (pe_fld (pv 0) rfl) pa_nil)) rfl)
      (pss_one (ps_fld (pv 0) (pe_call oG.ok hr (by rfl) oG.gl oG.kp oG.bd .nil pass0 (pa_cons
        (pe_lc (own := [("colour", 4), ("start", 5), ("end", 6)]) (g := gTup K 3 (gCons (gName 4) (gCons (gName 5) (gCons (gName 6) gNil)))) (tt := tYes) rfl scI.nd (pi_list (pe_fld (pv 0) rfl)) (blkOk_by (N := NI) (sc := defScope sInit) (by decide +kernel))
          (fun _ _ _ _ _ => pg_tup rfl (pgs_cons (pg_name (i := 4) scI.nd rfl (.inl rfl)) (pgs_cons (pg_name (i := 5) scI.nd rfl (.inl rfl)) (pgs_cons (pg_name (i := 6) scI.nd rfl (.inl rfl)) pgs_nil)))) (fun _ _ _ _ _ => pts_nil)
          (fun _ _ _ _ _ => pe_tup (pa_cons (pv 4) (pa_cons (pv 6) (pa_cons (pv 5) pa_nil)))))
        pa_nil)) rfl))))))))), ?_⟩
    refine seq_if ⟨_, rfl, _, _, rfl, rfl, _, rfl, ?_⟩
    rw [decide_eq_true (show (0 : Int) ≤ n from n0)]
    refine iteT ⟨_, _, rfl, rfl, _, rfl, ?_⟩
    rw [decide_eq_true (show n ≤ (81 : Int) from n1)]
    refine iteF ?_
    refine seq_next ?_
    refine seq_drop ⟨_, rfl, _, rfl, n, la, ka, rfl, ta, ga, fun H1 s1 => ?_⟩
    refine seq_drop ⟨_, rfl, _, rfl, n, lm, km, rfl, tm.same s1, gm, fun H2 s2 => ?_⟩
    have hx2 := s2 _ _ (s1 _ _ hx)
    have ta2 := (ta.same s1).same s2
    have tm2 := (tm.same s1).same s2
    have x2 : Xt x H H2 := Same.xt (s1.trans s2)
    generalize H2 = J at hx2 ta2 tm2 x2 ⊢
    clear s1 s2 ta tm
    refine seq_fld ⟨_, rfl, n, rfl, RgOk.of_le (Int.le_refl 0) (by omega) (by decide) n0, fun pl npl => ⟨_, rfl, x, C, dx, [], rfl, same_upd npl _ _ hx2, T.cl, T.n1, by decide, ?_⟩⟩
    have dpl : pl ≠ x := (ne_of_none hx2 npl).symm
    have fpl : H pl = none := x2.free dpl npl
    have x3 : Xt x H (upd (upd J pl (.lst (rgV 0 n))) x (.ins C dx (putF "places" (.ref pl) []))) := (x2.new npl).put
    have h3x : (upd (upd J pl (.lst (rgV 0 n))) x (.ins C dx (putF "places" (.ref pl) []))) x = some (.ins C dx (putF "places" (.ref pl) [])) := upd_same
    have h3p : (upd (upd J pl (.lst (rgV 0 n))) x (.ins C dx (putF "places" (.ref pl) []))) pl = some (.lst (rgV 0 n)) := by
      rw [upd_ne dpl]
      exact upd_same
    have ta3 : TL K (upd (upd J pl (.lst (rgV 0 n))) x (.ins C dx (putF "places" (.ref pl) []))) la ka := ta2.xt (((Xt.refl x J).new npl).put) hx2
    have tm3 : TL K (upd (upd J pl (.lst (rgV 0 n))) x (.ins C dx (putF "places" (.ref pl) []))) lm km := tm2.xt (((Xt.refl x J).new npl).put) hx2
    generalize upd (upd J pl (.lst (rgV 0 n))) x (.ins C dx (putF "places" (.ref pl) [])) = J3 at x3 h3x h3p ta3 tm3 ⊢
    refine seq_fld (read_ss rfl ta3 la64 (fun p hp => (ga p hp).tie (by omega)) fun As ar J4 sA s4 nar har => ⟨_, rfl, x, C, dx, _, rfl, s4 _ _ h3x, T.cl, T.n2, (show (1 : Nat) < 1000 by decide), ?_⟩)
    have dar : ar ≠ x := (ne_of_none h3x nar).symm
    have far : H ar = none := x3.free dar nar
    have y4 : Xt x J3 (upd J4 x (.ins C dx (putF "arrow_rows" (.ref ar) (putF "places" (.ref pl) [])))) := (Same.xt s4).put
    have h5x : (upd J4 x (.ins C dx (putF "arrow_rows" (.ref ar) (putF "places" (.ref pl) [])))) x = some (.ins C dx (putF "arrow_rows" (.ref ar) (putF "places" (.ref pl) []))) := upd_same
    have h5a : (upd J4 x (.ins C dx (putF "arrow_rows" (.ref ar) (putF "places" (.ref pl) [])))) ar = some (.lst (refs As)) := by
      rw [upd_ne dar]
      exact har
    generalize upd J4 x (.ins C dx (putF "arrow_rows" (.ref ar) (putF "places" (.ref pl) []))) = J5 at y4 h5x h5a ⊢
    have x5 := x3.trans y4
    have h5p := y4 _ _ dpl h3p
    have tm5 := tm3.xt y4 h3x
    have ta5 := ta3.xt y4 h3x
    clear ta3 tm3 x3 y4 s4 h3x h3p nar
    refine seq_fld (read_ss rfl tm5 lm64 (fun p hp => (gm p hp).tie (by omega)) fun Ms mr J6 sM s6 nmr hmr => ⟨_, rfl, x, C, dx, _, rfl, s6 _ _ h5x, T.cl, T.n3, (show (2 : Nat) < 1000 by decide), ?_⟩)
    have dmr : mr ≠ x := (ne_of_none h5x nmr).symm
    have fmr : H mr = none := x5.free dmr nmr
    have y6 : Xt x J5 (upd J6 x (.ins C dx (putF "mark_rows" (.ref mr) (putF "arrow_rows" (.ref ar) (putF "places" (.ref pl) []))))) := (Same.xt s6).put
    have h7x : (upd J6 x (.ins C dx (putF "mark_rows" (.ref mr) (putF "arrow_rows" (.ref ar) (putF "places" (.ref pl) []))))) x = some (.ins C dx (putF "mark_rows" (.ref mr) (putF "arrow_rows" (.ref ar) (putF "places" (.ref pl) [])))) := upd_same
    have h7m : (upd J6 x (.ins C dx (putF "mark_rows" (.ref mr) (putF "arrow_rows" (.ref ar) (putF "places" (.ref pl) []))))) mr = some (.lst (refs Ms)) := by
      rw [upd_ne dmr]
      exact hmr
    generalize upd J6 x (.ins C dx (putF "mark_rows" (.ref mr) (putF "arrow_rows" (.ref ar) (putF "places" (.ref pl) [])))) = J7 at y6 h7x h7m ⊢
    have x7 := x5.trans y6
    have h7p := y6 _ _ dpl h5p
    have h7a := y6 _ _ dar h5a
    have ta7 := ta5.xt y6 h5x
    clear tm5 ta5 x5 y6 s6 h5x h5p h5a nmr hmr
    have hAs : ∀ p ∈ As, SqT K J7 p.1 (p.2.map kV) ∧ R3 p.2 := fun p hp => ⟨ta7.2 p (sA.of p hp), (ga p (sA.of p hp)).r3⟩
    have lA : As.length < 64 := Nat.lt_of_le_of_lt sA.len la64
    refine seq_fld ⟨_, rfl, x, C, dx, _, _, rfl, h7x, T.cl, T.n2, rfl, ar, As, rfl, SqL.of h7a, hAs, by omega, fun ow J8 s8 gd => ⟨_, rfl, x, C, dx, _, rfl, s8 _ _ h7x, T.cl, T.n4, (show (3 : Nat) < 1000 by decide), ?_⟩⟩
    have dow : ow ≠ x := (ne_of_none h7x gd.nd).symm
    have gx8 : GXn H J8 ow (gat As) := gd.gxn x7 h7x
    have nx : ∀ c, H c = none → c ≠ x := fun c hc => (ne_of_none hx hc).symm
    have y8 : Xt x J7 (upd J8 x (.ins C dx (putF "onward" (.ref ow) (putF "mark_rows" (.ref mr) (putF "arrow_rows" (.ref ar) (putF "places" (.ref pl) [])))))) := (Same.xt s8).put
    have h9x : (upd J8 x (.ins C dx (putF "onward" (.ref ow) (putF "mark_rows" (.ref mr) (putF "arrow_rows" (.ref ar) (putF "places" (.ref pl) [])))))) x = some (.ins C dx (putF "onward" (.ref ow) (putF "mark_rows" (.ref mr) (putF "arrow_rows" (.ref ar) (putF "places" (.ref pl) []))))) := upd_same
    have gx9 : GXn H (upd J8 x (.ins C dx (putF "onward" (.ref ow) (putF "mark_rows" (.ref mr) (putF "arrow_rows" (.ref ar) (putF "places" (.ref pl) [])))))) ow (gat As) := gx8.keep fun c o hc e => (Xt.refl x J8).put c o (nx c hc) e
    generalize upd J8 x (.ins C dx (putF "onward" (.ref ow) (putF "mark_rows" (.ref mr) (putF "arrow_rows" (.ref ar) (putF "places" (.ref pl) []))))) = J9 at y8 h9x gx9 ⊢
    have x9 := x7.trans y8
    have h9p := y8 _ _ dpl h7p
    have h9a := y8 _ _ dar h7a
    have h9m := y8 _ _ dmr h7m
    have hA9 : ∀ p ∈ As, SqT K J9 p.1 (p.2.map kV) ∧ R3 p.2 := fun p hp => ⟨xt_tup y8 h7x (hAs p hp).1, (hAs p hp).2⟩
    clear x7 y8 h7x h7p h7a h7m ta7 hAs gx8 gd s8
    refine ⟨_, rfl, x, C, dx, _, _, rfl, h9x, T.cl, T.n2, rfl, ar, rfl, ⟨_, SqL.of h9a⟩, fun D nD => ?_⟩
    refine lc_list (xs := refs As) (fun i J => ∃ Bs : List TK, J D = some (.lst (refs Bs)) ∧ Bs.map (·.2) = (As.take i).map (fun p => swK p.2) ∧ (∀ p ∈ Bs, SqT K J p.1 (p.2.map kV) ∧ R3 p.2) ∧ Same J9 J) ⟨[], upd_same, rfl, (fun p hp => nomatch hp), same_upd nD⟩ ?_ ?_ ?_
    · rintro i J _ ⟨Bs, _, _, _, sm⟩
      exact sm.seq (SqL.of h9a)
    · rintro i v J hv ⟨Bs, hB, eB, hK, sm⟩
      have hik : i < As.length := by
        have := (List.getElem?_eq_some_iff.mp hv).1
        rwa [List.length_map] at this
      have gi : (refs As)[i]? = some (.ref As[i].1) := by
        rw [List.getElem?_map, List.getElem?_eq_getElem hik]
        rfl
      cases hv.symm.trans gi
      have hm : As[i] ∈ As := List.getElem_mem hik
      obtain ⟨hq, z, a, b, ek⟩ := hA9 _ hm
      have sq := same_tup sm hq
      rw [ek] at sq
      have ht : As.take (i + 1) = As.take i ++ [As[i]] := by
        rw [List.take_add_one, List.getElem?_eq_getElem hik]
        rfl
      have lB : Bs.length ≤ 64 := by
        have := congrArg List.length eB
        rw [List.length_map, List.length_map, List.length_take] at this
        omega
      refine ⟨As[i].1, [.str z, .int a, .int b], rfl, sq, rfl, .str z, [.int a, .int b], rfl, .int a, [.int b], rfl, .int b, [], rfl, rfl, rfl, ?_⟩
      unfold tYes
      refine Eq.mpr (if_pos rfl) ?_
      refine ⟨_, rfl, _, rfl, _, rfl, by show 3 ≤ sizeLine; decide, fun tp nt => ?_⟩
      have dD : D ≠ tp := ne_of_none hB nt
      have eD : (upd J tp (.tup [.str z, .int b, .int a])) D = some (.lst (refs Bs)) := by
        rw [upd_ne dD]
        exact hB
      have et : (upd J tp (.tup [.str z, .int b, .int a])) tp = some (.tup (([.inr z, .inl b, .inl a] : List Key).map kV)) := upd_same
      have st : Same J (upd J tp (.tup [.str z, .int b, .int a])) := same_upd nt
      generalize upd J tp (.tup [.str z, .int b, .int a]) = J' at eD et st ⊢
      refine ⟨refs Bs, eD, by rw [List.length_map]; exact Nat.lt_of_le_of_lt lB (by decide), Bs ++ [(tp, [.inr z, .inl b, .inl a])], ?_, ?_, ?_, ?_⟩
      · rw [upd_same]
        show _ = some (HO.lst (List.map _ (Bs ++ [_])))
        rw [List.map_append]
        rfl
      · rw [List.map_append, eB, ht, List.map_append]
        show _ ++ [_] = _ ++ [swK As[i].2]
        rw [ek]
        rfl
      · intro p hp
        rcases List.mem_append.mp hp with hp | hp
        · exact ⟨xt_tup' ((Same.xt st).put) hB (hK p hp).1, (hK p hp).2⟩
        · rw [List.mem_singleton] at hp
          subst hp
          refine ⟨SqT.of ?_, z, b, a, rfl⟩
          rw [upd_ne (ne_of et eD (fun z => nomatch z))]
          exact et
      · intro c o hc
        rw [upd_ne (ne_of_none hc nD)]
        exact st _ _ (sm _ _ hc)
    · rintro J ⟨Bs, hB, eB, hK, sm⟩
      rw [List.length_map, List.take_length] at eB
      have lB : Bs.length ≤ 64 := by
        have := congrArg List.length eB
        rw [List.length_map, List.length_map] at this
        omega
      refine ⟨D, Bs, rfl, SqL.of hB, hK, by omega, fun bw J' s' gd => ⟨_, rfl, x, C, dx, _, rfl, s' _ _ (sm _ _ h9x), T.cl, T.n5, (show (4 : Nat) < 1000 by decide), ?_⟩⟩
      have z9 : Xt x J9 (upd J' x (.ins C dx (flds pl ar mr ow bw))) := (Same.xt (sm.trans s')).put
      have gw : GXn H (upd J' x (.ins C dx (flds pl ar mr ow bw))) ow (gat As) := gx9.keep fun c o hc e => z9 c o (nx c hc) e
      have gb : GXn H (upd J' x (.ins C dx (flds pl ar mr ow bw))) bw (gat Bs) := (gd.gxn (x9.trans (Same.xt sm)) (sm _ _ h9x)).keep fun c o hc e => (Xt.refl x J').put c o (nx c hc) e
      exact KQ _ As Ms (fun H'' kp => ⟨dx, pl, ar, mr, ow, bw, kp _ _ (.inr rfl) upd_same, kp _ _ (.inl fpl) (z9 _ _ dpl h9p), kp _ _ (.inl far) (z9 _ _ dar h9a), kp _ _ (.inl fmr) (z9 _ _ dmr h9m), (gw.keep fun c o hc e => kp c o (.inl hc) e).gx, Bs, eB, (gb.keep fun c o hc e => kp c o (.inl hc) e).gx⟩) sA sM (x9.trans z9)
end
end Wb
namespace Sg
open PySem PySem.Spec PyProof.Rows L2
/-! ### ties as data -/
def kD : Key → PyData
  | .inl i => .int i
  | .inr x => .str x
def tD (k : List Key) : PyData := .tuple (k.map kD)
theorem dp_k (K : PySem.W.Frag) (H : Hp) (k : Key) : Dp K H (kV k) (kD k) := by
  cases k with
  | inl i => exact .int i
  | inr x => exact .str x
theorem dp_ks (K : PySem.W.Frag) (H : Hp) : ∀ ks : List Key, DpAll K H (ks.map kV) (ks.map kD)
  | [] => .nil
  | k :: ks => .cons (dp_k K H k) (dp_ks K H ks)
theorem dp_tie {K : PySem.W.Frag} {H : Hp} {a : Addr} {k : List Key} (h : SqT K H a (k.map kV)) : Dp K H (.ref a) (tD k) := .tup h (dp_ks K H k)
theorem eqv_k (a b : Key) : PyData.eqv (kD a) (kD b) = decide (a = b) := by
  cases a with
  | inl i =>
    cases b with
    | inl j =>
      show PyData.eqv (.int i) (.int j) = _
      rw [PyData.eqv]
      by_cases h : i = j
      · subst h
        simp
      · rw [decide_eq_false (fun z => h (Sum.inl.inj z))]
        exact beq_false_of_ne h
    | inr y =>
      show PyData.eqv (.int i) (.str y) = _
      rw [PyData.eqv, decide_eq_false (fun z => nomatch z)]
  | inr x =>
    cases b with
    | inl j =>
      show PyData.eqv (.str x) (.int j) = _
      rw [PyData.eqv, decide_eq_false (fun z => nomatch z)]
    | inr y =>
      show PyData.eqv (.str x) (.str y) = _
      rw [PyData.eqv]
      by_cases h : x = y
      · subst h
        simp
      · rw [decide_eq_false (fun z => h (Sum.inr.inj z))]
        exact beq_false_of_ne h
theorem eqv_ks : ∀ k k' : List Key, PyData.eqvAll (k.map kD) (k'.map kD) = decide (k = k')
  | [], [] => by rw [List.map_nil, PyData.eqvAll, decide_eq_true rfl]
  | [], b :: bs => by rw [List.map_nil, List.map_cons, PyData.eqvAll, decide_eq_false (fun z => nomatch z)]
  | a :: as, [] => by rw [List.map_nil, List.map_cons, PyData.eqvAll, decide_eq_false (fun z => nomatch z)]
  | a :: as, b :: bs => by
    rw [List.map_cons, List.map_cons, PyData.eqvAll, eqv_k, eqv_ks as bs]
    by_cases h1 : a = b
    · by_cases h2 : as = bs
      · subst h1 h2
        simp
      · rw [decide_eq_false h2, Bool.and_false, decide_eq_false (fun z => h2 (List.cons.inj z).2)]
    · rw [decide_eq_false h1, Bool.false_and, decide_eq_false (fun z => h1 (List.cons.inj z).1)]
theorem eqv_tie (k k' : List Key) : PyData.eqv (tD k) (tD k') = decide (k = k') := by
  unfold tD
  rw [PyData.eqv]
  exact eqv_ks k k'
def okK : Key → Bool
  | .inl _ => true
  | .inr x => PyData.strOk x
theorem can_k {k : Key} (h : okK k = true) : PyData.canLay0 (kD k) = true := by
  cases k with
  | inl i =>
    show PyData.canLay0 (.int i) = true
    rw [PyData.canLay0]
  | inr x =>
    show PyData.canLay0 (.str x) = true
    rw [PyData.canLay0]
    exact h
theorem can_all : ∀ {ds : List PyData}, (∀ d ∈ ds, PyData.canLay0 d = true) → PyData.canLayAll0 ds = true
  | [], _ => by rw [PyData.canLayAll0]
  | d :: ds, h => by
    rw [PyData.canLayAll0, h d (List.mem_cons_self ..), can_all fun e he => h e (List.mem_cons_of_mem _ he)]
    rfl
theorem deep_all {n : Nat} : ∀ {ds : List PyData}, (∀ d ∈ ds, PyData.depth d ≤ n) → PyData.depthAll ds ≤ n
  | [], _ => by
    rw [PyData.depthAll]
    exact Nat.zero_le _
  | d :: ds, h => by
    rw [PyData.depthAll]
    exact Nat.max_le.mpr ⟨h d (List.mem_cons_self ..), deep_all fun e he => h e (List.mem_cons_of_mem _ he)⟩
theorem deep_k (k : Key) : PyData.depth (kD k) ≤ 0 := by
  cases k with
  | inl i =>
    show PyData.depth (.int i) ≤ 0
    simp [PyData.depth]
  | inr x =>
    show PyData.depth (.str x) ≤ 0
    simp [PyData.depth]
theorem can_tie {k : List Key} (h : ∀ z ∈ k, okK z = true) : PyData.canLay0 (tD k) = true := by
  unfold tD
  rw [PyData.canLay0]
  exact can_all fun d hd => by
    obtain ⟨z, hz, rfl⟩ := List.mem_map.mp hd
    exact can_k (h z hz)
theorem deep_tie (k : List Key) : PyData.depth (tD k) ≤ 1 := by
  unfold tD
  rw [PyData.depth]
  have := deep_all (n := 0) (ds := k.map kD) fun d hd => by
    obtain ⟨z, hz, rfl⟩ := List.mem_map.mp hd
    exact deep_k z
  omega
theorem shaped_tie {k : List Key} (h : ∀ z ∈ k, okK z = true) : SeqAt.shaped (tD k) = true := by
  unfold SeqAt.shaped
  have := deep_tie k
  rw [can_tie h, decide_eq_true (by omega)]
  rfl
theorem TieK.ok {d : Nat} {k : List Key} (t : TieK 128 d k) : ∀ z ∈ k, okK z = true := by
  obtain ⟨c, ns, rfl, _, b⟩ := t
  intro z hz
  rcases List.mem_cons.mp hz with rfl | hz
  · have : (c : Int) < 128 := (b.head).2
    show PyData.strOk ⟨#[c]⟩ = true
    unfold PyData.strOk
    simp
    omega
  · obtain ⟨n, _, rfl⟩ := List.mem_map.mp hz
    rfl
/-- a list of ties as data -/
def lD (ks : List TK) : PyData := .list (ks.map fun p => tD p.2)
theorem dp_refs {K : PySem.W.Frag} {H : Hp} : ∀ {ks : List TK}, (∀ p ∈ ks, SqT K H p.1 (p.2.map kV)) → DpAll K H (refs ks) (ks.map fun p => tD p.2)
  | [], _ => .nil
  | p :: ks, h => .cons (dp_tie (h p (List.mem_cons_self ..))) (dp_refs fun q hq => h q (List.mem_cons_of_mem _ hq))
theorem dp_list {K : PySem.W.Frag} {H : Hp} {a : Addr} {ks : List TK} (hl : SqL K H a (refs ks)) (h : ∀ p ∈ ks, SqT K H p.1 (p.2.map kV)) : Dp K H (.ref a) (lD ks) := .lst hl (dp_refs h)
theorem can_list {ks : List TK} (h : ∀ p ∈ ks, ∀ z ∈ p.2, okK z = true) : PyData.canLay0 (lD ks) = true := by
  unfold lD
  rw [PyData.canLay0]
  exact can_all fun d hd => by
    obtain ⟨z, hz, rfl⟩ := List.mem_map.mp hd
    exact can_tie (h z hz)
theorem deep_list (ks : List TK) : PyData.depth (lD ks) ≤ 2 := by
  unfold lD
  rw [PyData.depth]
  have := deep_all (n := 1) (ds := ks.map fun p => tD p.2) fun d hd => by
    obtain ⟨z, hz, rfl⟩ := List.mem_map.mp hd
    exact deep_tie z.2
  omega
theorem shaped_list {ks : List TK} (h : ∀ p ∈ ks, ∀ z ∈ p.2, okK z = true) : SeqAt.shaped (lD ks) = true := by
  unfold SeqAt.shaped
  have := deep_list ks
  rw [can_list h, decide_eq_true (by omega)]
  rfl
theorem eqv_nil (ks : List TK) : PyData.eqv (lD ks) (.list []) = decide (ks = []) := by
  unfold lD
  cases ks with
  | nil => simp [PyData.eqv, PyData.eqvAll]
  | cons p ks => simp [PyData.eqv, PyData.eqvAll]
/-! ### the order of ties tells them apart -/
theorem code_inj {B : Int} : ∀ ns ms : List Int, ns.length = ms.length → TS.Bd B ns → TS.Bd B ms → TS.code B ns = TS.code B ms → ns = ms
  | [], [], _, _, _, _ => rfl
  | [], _ :: _, h, _, _, _ => by cases h
  | _ :: _, [], h, _, _, _ => by cases h
  | x :: xs, y :: ys, hl, h1, h2, e => by
    have hl' : xs.length = ys.length := Nat.succ.inj hl
    rcases Int.lt_trichotomy x y with h | h | h
    · have := TS.code_lt hl' h1.tail h2.tail h
      omega
    · subst h
      simp only [TS.code, hl'] at e
      rw [code_inj xs ys hl' h1.tail h2.tail (by omega)]
    · have := TS.code_lt hl'.symm h2.tail h1.tail h
      omega
theorem ord_inj {B : Int} {d : Nat} {p q : TK} (t1 : TieK B d p.2) (t2 : TieK B d q.2) (e : ordOf B p = ordOf B q) : p.2 = q.2 := by
  obtain ⟨c, ns, e1, l1, b1⟩ := t1
  obtain ⟨c', ms, e2, l2, b2⟩ := t2
  unfold ordOf at e
  rw [e1, e2] at e
  have f1 : (Sum.inr ⟨#[c]⟩ :: ns.map Sum.inl : List Key).map numK = (c : Int) :: ns := by
    rw [List.map_cons, nums_inl]
    rfl
  have f2 : (Sum.inr ⟨#[c']⟩ :: ms.map Sum.inl : List Key).map numK = (c' : Int) :: ms := by
    rw [List.map_cons, nums_inl]
    rfl
  rw [f1, f2] at e
  have := code_inj _ _ (by rw [List.length_cons, List.length_cons]; omega) b1 b2 e
  injection this with h1 h2
  have h1' : c = c' := Int.ofNat.inj h1
  rw [e1, e2, h1', h2]
theorem rise_eq : ∀ l m : List Int, l.Pairwise (· < ·) → m.Pairwise (· < ·) → (∀ x, x ∈ l ↔ x ∈ m) → l = m
  | [], [], _, _, _ => rfl
  | [], y :: _, _, _, h => by
    have := (h y).mpr (List.mem_cons_self ..)
    cases this
  | x :: _, [], _, _, h => by
    have := (h x).mp (List.mem_cons_self ..)
    cases this
  | x :: l, y :: m, h1, h2, h => by
    have a1 := List.pairwise_cons.mp h1
    have a2 := List.pairwise_cons.mp h2
    have exy : x = y := by
      rcases List.mem_cons.mp ((h x).mp (List.mem_cons_self ..)) with e | e
      · exact e
      · rcases List.mem_cons.mp ((h y).mpr (List.mem_cons_self ..)) with e' | e'
        · exact e'.symm
        · have := a2.1 x e
          have := a1.1 y e'
          omega
    subst exy
    rw [rise_eq l m a1.2 a2.2 fun z => ⟨fun hz => ?_, fun hz => ?_⟩]
    · rcases List.mem_cons.mp ((h z).mp (List.mem_cons_of_mem _ hz)) with e | e
      · have := a1.1 z hz
        omega
      · exact e
    · rcases List.mem_cons.mp ((h z).mpr (List.mem_cons_of_mem _ hz)) with e | e
      · have := a2.1 z hz
        omega
      · exact e
theorem keys_eq {B : Int} {d : Nat} : ∀ {U V : List TK}, (∀ p ∈ U, TieK B d p.2) → (∀ p ∈ V, TieK B d p.2) → U.map (ordOf B) = V.map (ordOf B) → U.map (·.2) = V.map (·.2)
  | [], [], _, _, _ => rfl
  | [], _ :: _, _, _, h => by cases h
  | _ :: _, [], _, _, h => by cases h
  | p :: U, q :: V, h1, h2, h => by
    rw [List.map_cons, List.map_cons] at h
    injection h with ha hb
    rw [List.map_cons, List.map_cons, ord_inj (h1 p (List.mem_cons_self ..)) (h2 q (List.mem_cons_self ..)) ha, keys_eq (fun z hz => h1 z (List.mem_cons_of_mem _ hz)) (fun z hz => h2 z (List.mem_cons_of_mem _ hz)) hb]
/-- rising, each key once: strictly -/
theorem strict_of {B : Int} {d : Nat} : ∀ {U : List TK}, (∀ p ∈ U, TieK B d p.2) → (U.map (·.2)).Nodup → U.Pairwise (fun p q => ordOf B p ≤ ordOf B q) → (U.map (ordOf B)).Pairwise (· < ·)
  | [], _, _, _ => List.Pairwise.nil
  | p :: U, ht, nd, ris => by
    rw [List.map_cons] at nd ⊢
    have a1 := List.nodup_cons.mp nd
    have a2 := List.pairwise_cons.mp ris
    refine List.pairwise_cons.mpr ⟨fun x hx => ?_, strict_of (fun z hz => ht z (List.mem_cons_of_mem _ hz)) a1.2 a2.2⟩
    obtain ⟨q, hq, rfl⟩ := List.mem_map.mp hx
    have h1 := a2.1 q hq
    have h2 : ordOf B p ≠ ordOf B q := fun e => a1.1 (by
      rw [ord_inj (ht p (List.mem_cons_self ..)) (ht q (List.mem_cons_of_mem _ hq)) e]
      exact List.mem_map.mpr ⟨q, hq, rfl⟩)
    omega
theorem same_keys {B : Int} {d : Nat} {U V : List TK} (h1 : ∀ p ∈ U, TieK B d p.2) (h2 : ∀ p ∈ V, TieK B d p.2) (n1 : (U.map (·.2)).Nodup) (n2 : (V.map (·.2)).Nodup) (r1 : U.Pairwise fun p q => ordOf B p ≤ ordOf B q)
    (r2 : V.Pairwise fun p q => ordOf B p ≤ ordOf B q) (h : ∀ k, k ∈ U.map (·.2) ↔ k ∈ V.map (·.2)) : U.map (·.2) = V.map (·.2) := by
  refine keys_eq h1 h2 (rise_eq _ _ (strict_of h1 n1 r1) (strict_of h2 n2 r2) fun x => ?_)
  have go : ∀ {S T : List TK}, (∀ k, k ∈ S.map (·.2) → k ∈ T.map (·.2)) → x ∈ S.map (ordOf B) → x ∈ T.map (ordOf B) := fun {S T} g hx => by
    obtain ⟨p, hp, rfl⟩ := List.mem_map.mp hx
    obtain ⟨q, hq, e⟩ := List.mem_map.mp (g p.2 (List.mem_map.mpr ⟨p, hp, rfl⟩))
    refine List.mem_map.mpr ⟨q, hq, ?_⟩
    show TS.code B (q.2.map numK) = TS.code B (p.2.map numK)
    rw [show q.2 = p.2 from e]
  exact ⟨go fun k => (h k).mp, go fun k => (h k).mpr⟩
end Sg
namespace Wb
open PySem PySem.Spec PyProof.Rows L2 RZ Sg
abbrev sMixed : Stmt := topS 31
abbrev sUnlike : Stmt := topS 33
abbrev sSign : Stmt := topS 35
section
variable {P : Program} {w : World} {K : PySem.W.Frag} {mg : Str → Option Value} {base : Heap}
/-! ### what a web tells -/
def spPts (C : Addr) : Sp := fun vs H Q _ => ∃ x n As Ms, vs = [.ref x] ∧ WebAt C H x n As Ms ∧ 0 ≤ n ∧ Q (.int n) H
theorem scPt : FnScope ["self"] ["self"] (defScope sPoints) := ⟨rfl, rfl, rfl, by decide +kernel, rfl, by decide +kernel, by decide +kernel⟩
theorem ok_pts {f C : Addr} {fd : FuncData} (F : Fun K "points" "Web.points" sPoints f fd) (T : WT K mg C) (ml : mg "len" = none) : FnOk P w K mg base CX0 1 f fd ["self"] (spPts C) := by
  refine F.ok scPt (fun vs H Q E h => ?_) (fun cdv A outer s H vs Q E hr h => ?_)
  · obtain ⟨x, n, As, Ms, rfl, _⟩ := h
    rfl
  · obtain ⟨x, n, As, Ms, rfl, W, n0, KQ⟩ := h
    refine ⟨_, pss_one (ps_ret (pe_callB call_len_seq (by rfl) ml PySem.boot_len (pa_cons (pe_fld (pv 0) rfl) pa_nil))), ?_⟩
    obtain ⟨dx, pl, ar, mr, ow, bw, h1, h2, _⟩ := W.ex
    refine ret_of ⟨_, rfl, x, C, dx, _, _, rfl, h1, T.cl, T.n1, rfl, pl, _, rfl, .inl (SqL.of h2), ?_⟩
    have : ((rgV 0 n).length : Int) = n := by
      unfold rgV
      rw [List.length_map, List.length_range]
      omega
    rw [this]
    exact KQ
def spArr (C : Addr) : Sp := fun vs H Q _ => ∃ x n As Ms, vs = [.ref x] ∧ WebAt C H x n As Ms ∧ ∀ p, H p = none → Q (.ref p) (upd H p (.lst (refs As)))
theorem scAr : FnScope ["self"] ["self"] (defScope sArrows) := ⟨rfl, rfl, rfl, by decide +kernel, rfl, by decide +kernel, by decide +kernel⟩
theorem ok_arr {f C : Addr} {fd : FuncData} (F : Fun K "arrows" "Web.arrows" sArrows f fd) (T : WT K mg C) : FnOk P w K mg base CX0 1 f fd ["self"] (spArr C) := by
  refine F.ok scAr (fun vs H Q E h => ?_) (fun cdv A outer s H vs Q E hr h => ?_)
  · obtain ⟨x, n, As, Ms, rfl, _⟩ := h
    rfl
  · obtain ⟨x, n, As, Ms, rfl, W, KQ⟩ := h
    refine ⟨_, pss_one (ps_ret (pe_callTy call_list_of (by rfl) T.list boot_list (pa_cons (pe_fld (pv 0) rfl) pa_nil))), ?_⟩
    obtain ⟨dx, pl, ar, mr, ow, bw, h1, _, h3, _⟩ := W.ex
    exact ret_of ⟨_, rfl, x, C, dx, _, _, rfl, h1, T.cl, T.n2, rfl, ar, _, rfl, .inl (SqL.of h3), fun p np => KQ p np⟩
def spMrk (C : Addr) : Sp := fun vs H Q _ => ∃ x n As Ms, vs = [.ref x] ∧ WebAt C H x n As Ms ∧ ∀ p, H p = none → Q (.ref p) (upd H p (.lst (refs Ms)))
theorem scMr : FnScope ["self"] ["self"] (defScope sMarks) := ⟨rfl, rfl, rfl, by decide +kernel, rfl, by decide +kernel, by decide +kernel⟩
theorem ok_mrk {f C : Addr} {fd : FuncData} (F : Fun K "marks" "Web.marks" sMarks f fd) (T : WT K mg C) : FnOk P w K mg base CX0 1 f fd ["self"] (spMrk C) := by
  refine F.ok scMr (fun vs H Q E h => ?_) (fun cdv A outer s H vs Q E hr h => ?_)
  · obtain ⟨x, n, As, Ms, rfl, _⟩ := h
    rfl
  · obtain ⟨x, n, As, Ms, rfl, W, KQ⟩ := h
    refine ⟨_, pss_one (ps_ret (pe_callTy call_list_of (by rfl) T.list boot_list (pa_cons (pe_fld (pv 0) rfl) pa_nil))), ?_⟩
    obtain ⟨dx, pl, ar, mr, ow, bw, h1, _, _, h4, _⟩ := W.ex
    exact ret_of ⟨_, rfl, x, C, dx, _, _, rfl, h1, T.cl, T.n3, rfl, mr, _, rfl, .inl (SqL.of h4), fun p np => KQ p np⟩
/-! ### things in any order -/
theorem bx_nr {H : Hp} {b q l : Addr} {ks : List TK} (B : Bx H b q) (h : H l = some (.lst (refs ks))) : l ≠ b := fun e => by
  subst e
  obtain ⟨ns, i, r, k, hb, _⟩ := B
  rw [h] at hb
  injection hb with hb
  injection hb with hb
  match ks, hb with
  | [], hb => cases hb
  | [_], hb => cases hb
  | _ :: _ :: _, hb => cases hb
def spMix : Sp := fun vs H Q _ => ∃ b q l ks, vs = [.ref b, .ref l] ∧ Bx H b q ∧ H l = some (.lst (refs ks)) ∧ ks.length < 64 ∧ ∀ p L H', H p = none → H' p = some (.lst (refs L)) → L.Perm ks → Bx H' b q → Xt b H H' → Q (.ref p) H'
theorem scMx : FnScope ["_law_box_here", "_law_some", "_law_found", "_law_one_here"] ["_law_box_here", "_law_some"] (defScope sMixed) := ⟨rfl, rfl, rfl, by decide +kernel, rfl, by decide +kernel, by decide +kernel⟩
set_option maxHeartbeats 2000000 in
theorem ok_mix {f fT : Addr} {fd fdT : FuncData} (F : Fun K "_law_mixed" "_law_mixed" sMixed f fd) (ml : mg "len" = none) (T : Df P w K mg base 1 "_law_take" ["_law_box_here", "_law_many"] spTake fT fdT) : FnOk P w K mg base CX0 2 f fd ["_law_box_here", "_law_some"] spMix := by
  refine F.ok scMx (fun vs H Q E h => ?_) (fun cdv A outer s H vs Q E hr h => ?_)
  · obtain ⟨b, q, l, ks, rfl, _⟩ := h
    rfl
  · obtain ⟨b, q, l, ks, rfl, B, hl, h64, KQ⟩ := h
    refine ⟨_, pss_cons (ps_set (i := 2) scMx.nd rfl (.inl rfl) (pe_lst pa_nil))
      (pss_cons (ps_for PassesOwn.never rfl (pi_list (pv 1)) (pg_name (i := 3) scMx.nd rfl (.inl rfl))
        (pss_one (ps_expr (pe_bm PySem.F.plainAttrs_list PySem.F.slot_list_insert PySem.F.type_list_insert mt_insert (pv 2)
          (pa_cons (pe_call T.ok hr (by rfl) T.gl T.kp T.bd .nil pass0 (pa_cons (pv 0) (pa_cons (pe_op op_add (pe_callB call_len_seq (by rfl) ml PySem.boot_len (pa_cons (pv 2) pa_nil)) pe_int) pa_nil))) (pa_cons (pv 3) pa_nil))))))
      (pss_one (ps_ret (pv 2)))), ?_⟩
    refine seq_set ⟨Nat.zero_le _, fun D nD => ?_⟩
    have dD : D ≠ b := B.ne nD
    have lb : l ≠ b := bx_nr B hl
    have B0 := B.new (o := .lst []) nD
    have x0 := (Xt.refl b H).new (o := .lst []) nD
    have e0 : (upd H D (.lst [])) D = some (.lst (refs [])) := upd_same
    generalize upd H D (.lst []) = H0 at B0 x0 e0 ⊢
    refine ⟨_, rfl, l, rfl, ⟨_, SqL.of (x0 _ _ lb hl)⟩, for_list (xs := refs ks) (fun i σ J => ∃ y3 L, σ = [some (.ref b), some (.ref l), some (.ref D), y3] ∧ J D = some (.lst (refs L)) ∧ L.Perm (ks.take i) ∧ Bx J b q ∧ Xt b H J) ⟨_, [], rfl, e0, List.Perm.refl _, B0, x0⟩ ?_ ?_ ?_⟩
    · rintro i σ J _ ⟨y3, L, _, _, _, _, x1⟩
      exact SqL.of (x1 _ _ lb hl)
    · rintro i v σ J hv ⟨y3, L, rfl, hD, pm, B1, x1⟩
      have hik : i < ks.length := by
        have := (List.getElem?_eq_some_iff.mp hv).1
        rwa [List.length_map] at this
      have gi : (refs ks)[i]? = some (.ref ks[i].1) := by
        rw [List.getElem?_map, List.getElem?_eq_getElem hik]
        rfl
      cases hv.symm.trans gi
      have ht : ks.take (i + 1) = ks.take i ++ [ks[i]] := by
        rw [List.take_add_one, List.getElem?_eq_getElem hik]
        rfl
      have lL : L.length = i := by
        rw [pm.length_eq, List.length_take]
        omega
      have lL' : (refs L).length = i := by rw [List.length_map, lL]
      refine ⟨_, rfl, .inl ⟨rfl, _, SqL.of hD⟩, _, rfl, _, rfl, D, _, rfl, .inl (SqL.of hD), _, 1, rfl, rfl, b, q, _, rfl, B1, by omega, by omega, fun z J' z0 z1 B2 kp => ?_⟩
      have hD' : J' D = some (.lst (refs L)) := by
        rw [kp D dD]
        exact hD
      refine ⟨_, rfl, D, refs L, z, _, rfl, rfl, hD', small1000 (by omega), z0, by omega, ?_⟩
      refine ⟨_, L.take z.toNat ++ [ks[i]] ++ L.drop z.toNat, rfl, ?_, ?_, B2.upd dD (B.neq nD), ?_⟩
      · rw [upd_same]
        simp only [List.map_append, List.map_take, List.map_drop]
        rfl
      · rw [ht, List.append_assoc]
        refine List.perm_middle.trans ?_
        show (ks[i] :: (L.take z.toNat ++ L.drop z.toNat)).Perm _
        rw [List.take_append_drop]
        exact (List.Perm.cons _ pm).trans (List.perm_append_singleton _ _).symm
      · intro c o hc ec
        rw [upd_ne (ne_of_none ec nD), kp c hc]
        exact x1 c o hc ec
    · rintro σ J ⟨y3, L, rfl, hD, pm, B1, x1⟩
      rw [List.length_map, List.take_length] at pm
      exact ⟨_, rfl, KQ D L J nD hD pm B1 x1⟩
/-! ### each once, rising -/
theorem Srt.strict {ks U : List TK} (h1 : ∀ p ∈ U, p ∈ ks) (h2 : ∀ p ∈ ks, p.2 ∈ U.map (·.2)) (h3 : (U.map (ordOf 128)).Pairwise (· < ·)) : Srt ks U := by
  refine ⟨h1, h2, ?_, ?_⟩
  · rw [List.pairwise_map] at h3
    unfold List.Nodup
    rw [List.pairwise_map]
    refine h3.imp fun {p q} h e => ?_
    have : ordOf 128 p = ordOf 128 q := by
      show TS.code 128 (p.2.map numK) = TS.code 128 (q.2.map numK)
      rw [e]
    omega
  · rw [List.pairwise_map] at h3
    exact h3.imp fun h => Int.le_of_lt h
def spUnl (K : PySem.W.Frag) : Sp := fun vs H Q _ => ∃ l ks d, vs = [.ref l] ∧ H l = some (.lst (refs ks)) ∧ (∀ p ∈ ks, SqT K H p.1 (p.2.map kV)) ∧ (∀ p ∈ ks, TieK 128 d p.2) ∧ ks.length < 64 ∧ ∀ p U H', H p = none → H' p = some (.lst (refs U)) → Srt ks U → Same H H' → Q (.ref p) H'
theorem scU : FnScope ["_law_some", "_law_found", "_law_one_here"] ["_law_some"] (defScope sUnlike) := ⟨rfl, rfl, rfl, by decide +kernel, rfl, by decide +kernel, by decide +kernel⟩
set_option maxHeartbeats 2000000 in
theorem ok_unl {f : Addr} {fd : FuncData} (F : Fun K "_law_unlike" "_law_unlike" sUnlike f fd) (ms : mg "sorted" = none) : FnOk P w K mg base CX0 1 f fd ["_law_some"] (spUnl K) := by
  refine F.ok scU (fun vs H Q E h => ?_) (fun cdv A outer s H vs Q E hr h => ?_)
  · obtain ⟨l, ks, d, rfl, _⟩ := h
    rfl
  · obtain ⟨l, ks, d, rfl, hl, hq, ht, h64, KQ⟩ := h
    have hu : (A.deeper (envOfC "_law_unlike" (defScope sUnlike) s.heap.objs.size f cdv)).units + 64 < cLine := by
      have := hr.un
      omega
    refine ⟨_, pss_cons (ps_set (i := 1) scU.nd rfl (.inl rfl) (pe_lst pa_nil))
      (pss_cons (ps_for PassesOwn.never rfl (pi_list (pe_callB (cr_sortX rfl) (by rfl) ms (by decide +kernel) (pa_cons (pv 0) pa_nil))) (pg_name (i := 2) scU.nd rfl (.inl rfl))
        (pss_one (ps_if (PW.pt (pw_or (pt_cmpR (op_eqD hu) (pv 1) (pe_lst pa_nil) (by rfl)) (pw_or1 (pt_cmpR (op_neD hu) (pe_ix ix_list (pv 1) (pe_un un_neg pe_int) (fun _ _ => rfl)) (pv 2) (by rfl)))))
          (pss_one (ps_expr (pe_bm PySem.F.plainAttrs_list PySem.F.slot_list_append PySem.F.type_list_append mt_append (pv 1) (pa_cons (pv 2) pa_nil)))) pss_nil)))
      (pss_one (ps_ret (pv 1)))), ?_⟩
    refine seq_set ⟨Nat.zero_le _, fun D nD => ?_⟩
    have s0 : Same H (upd H D (.lst [])) := same_upd nD
    have e0 : (upd H D (.lst [])) D = some (.lst (refs [])) := upd_same
    generalize upd H D (.lst []) = H0 at s0 e0 ⊢
    refine ⟨_, rfl, l, ks, d, 128, rfl, .inr ⟨SqL.of (s0 _ _ hl), h64⟩, fun p hp => same_tup s0 (hq p hp), ht, fun L p pm ris _ np => ?_⟩
    have s1 : Same H0 (upd H0 p (.lst (refs L))) := same_upd np
    have e1 : (upd H0 p (.lst (refs L))) p = some (.lst (refs L)) := upd_same
    generalize upd H0 p (.lst (refs L)) = H1 at s1 e1 ⊢
    have s01 := s0.trans s1
    have qL : ∀ z ∈ L, SqT K H1 z.1 (z.2.map kV) := fun z hz => same_tup s01 (hq z (pm.mem_iff.mp hz))
    have tL : ∀ z ∈ L, TieK 128 d z.2 := fun z hz => ht z (pm.mem_iff.mp hz)
    refine ⟨p, rfl, ⟨_, SqL.of e1⟩, for_list (xs := refs L) (fun i σ J => ∃ y2 U, σ = [some (.ref l), some (.ref D), y2] ∧ J D = some (.lst (refs U)) ∧ (∀ z ∈ U, z ∈ L.take i) ∧ (∀ z ∈ L.take i, z.2 ∈ U.map (·.2)) ∧ (U.map (ordOf 128)).Pairwise (· < ·) ∧ (∀ c o, c ≠ D → H1 c = some o → J c = some o)) ⟨_, [], rfl, s1 _ _ e0, (fun z hz => nomatch hz), (fun z hz => nomatch hz), List.Pairwise.nil, fun c o _ h => h⟩ ?_ ?_ ?_⟩
    · rintro i σ J _ ⟨y2, U, _, _, _, _, _, sm⟩
      exact SqL.of (sm _ _ (ne_of_none e0 np).symm e1)
    · rintro i v σ J hv ⟨y2, U, rfl, hD, u1, u2, u3, sm⟩
      have hik : i < L.length := by
        have := (List.getElem?_eq_some_iff.mp hv).1
        rwa [List.length_map] at this
      have gi : (refs L)[i]? = some (.ref L[i].1) := by
        rw [List.getElem?_map, List.getElem?_eq_getElem hik]
        rfl
      cases hv.symm.trans gi
      have hti : L.take (i + 1) = L.take i ++ [L[i]] := by
        rw [List.take_add_one, List.getElem?_eq_getElem hik]
        rfl
      have tU : ∀ z ∈ U, TieK 128 d z.2 := fun z hz => tL z (List.mem_of_mem_take (u1 z hz))
      have tx : TieK 128 d L[i].2 := tL _ (List.getElem_mem hik)
      have le : ∀ z ∈ U, ordOf 128 z ≤ ordOf 128 L[i] := fun z hz => by
        have r2 := ris
        rw [← List.take_append_drop i L] at r2
        refine (List.pairwise_append.mp r2).2.2 z (u1 z hz) L[i] ?_
        rw [List.drop_eq_getElem_cons hik]
        exact List.mem_cons_self ..
      have lU : U.length < 1000 := by
        have h1 : (U.map (·.2)).Nodup := (Srt.strict (ks := L.take i) u1 u2 u3).nd
        have h2 := (Srt.strict (ks := L.take i) u1 u2 u3).len
        rw [List.length_take] at h2
        have h3 := pm.length_eq
        omega
      refine ⟨_, rfl, Nat.zero_le _, fun e ne => ?_⟩
      have dDe : D ≠ e := ne_of_none hD ne
      have eD : (upd J e (.lst [])) D = some (.lst (refs U)) := by
        rw [upd_ne dDe]
        exact hD
      have ee : (upd J e (.lst [])) e = some (.lst []) := upd_same
      have se : Same J (upd J e (.lst [])) := same_upd ne
      generalize upd J e (.lst []) = J1 at eD ee se ⊢
      have qx : ∀ z ∈ L, SqT K J1 z.1 (z.2.map kV) := fun z hz => same_tup se (xt_tup' (fun c o hc h => sm c o hc h) (s1 _ _ e0) (qL z hz))
      have qU : ∀ z ∈ U, SqT K J1 z.1 (z.2.map kV) := fun z hz => qx z (List.mem_of_mem_take (u1 z hz))
      have sm1 : ∀ c o, c ≠ D → H1 c = some o → J1 c = some o := fun c o hc h => se _ _ (sm c o hc h)
      have add : (∀ z ∈ U, ordOf 128 z < ordOf 128 L[i]) → ∃ y2 U', [some (V.ref l), some (V.ref D), some (V.ref L[i].1)] = [some (V.ref l), some (V.ref D), y2] ∧ (upd J1 D (.lst (refs U ++ [.ref L[i].1]))) D = some (.lst (refs U')) ∧ (∀ z ∈ U', z ∈ L.take (i + 1)) ∧ (∀ z ∈ L.take (i + 1), z.2 ∈ U'.map (·.2)) ∧ (U'.map (ordOf 128)).Pairwise (· < ·) ∧ ∀ c o, c ≠ D → H1 c = some o → (upd J1 D (.lst (refs U ++ [.ref L[i].1]))) c = some o := fun hlt => by
        refine ⟨_, U ++ [L[i]], rfl, ?_, ?_, ?_, ?_, ?_⟩
        · rw [upd_same]
          show _ = some (HO.lst (List.map _ (U ++ [_])))
          rw [List.map_append]
          rfl
        · intro z hz
          rw [hti]
          rcases List.mem_append.mp hz with hz | hz
          · exact List.mem_append_left _ (u1 z hz)
          · exact List.mem_append_right _ hz
        · intro z hz
          rw [hti] at hz
          rw [List.map_append]
          rcases List.mem_append.mp hz with hz | hz
          · exact List.mem_append_left _ (u2 z hz)
          · rw [List.mem_singleton] at hz
            subst hz
            exact List.mem_append_right _ (List.mem_cons_self ..)
        · rw [List.map_append]
          refine List.pairwise_append.mpr ⟨u3, List.pairwise_singleton .., fun a ha b hb => ?_⟩
          obtain ⟨z, hz, rfl⟩ := List.mem_map.mp ha
          rw [List.map_cons, List.map_nil, List.mem_singleton] at hb
          subst hb
          exact hlt z hz
        · intro c o hc h
          rw [upd_ne hc]
          exact sm1 c o hc h
      refine ⟨lD U, .list [], dp_list (SqL.of eD) qU, .lst (SqL.of ee) .nil, shaped_list (fun z hz => (tU z hz).ok), by decide +kernel, _, rfl, ?_⟩
      rw [eqv_nil]
      rcases List.eq_nil_or_concat U with hU | ⟨U0, u, hU⟩
      · rw [decide_eq_true hU]
        refine iteT (iteT ?_)
        refine ⟨_, rfl, .inl ⟨rfl, _, SqL.of eD⟩, _, rfl, D, _, _, rfl, rfl, eD, small1000 (by rw [List.length_map]; omega), ?_⟩
        exact add (fun z hz => by rw [hU] at hz; cases hz)
      · rw [List.concat_eq_append] at hU
        have hne : U ≠ [] := by
          rw [hU]
          simp
        rw [decide_eq_false hne]
        refine iteF ?_
        have mu : u ∈ U := by
          rw [hU]
          exact List.mem_append_right _ (List.mem_cons_self ..)
        have la : atI (refs U) (-1) = some (.ref u.1) := by
          rw [hU]
          show atI (List.map _ (U0 ++ [u])) (-1) = _
          rw [List.map_append]
          exact atI_last _ _
        refine ⟨_, rfl, 1, rfl, D, _, _, _, rfl, rfl, SqL.of eD, la, _, rfl, tD u.2, tD L[i].2, dp_tie (qU u mu), dp_tie (qx _ (List.getElem_mem hik)), shaped_tie (tU u mu).ok, shaped_tie tx.ok, _, rfl, ?_⟩
        rw [eqv_tie]
        by_cases hk : u.2 = L[i].2
        · rw [decide_eq_true hk]
          refine iteF ?_
          refine ⟨_, U, rfl, eD, fun z hz => ?_, fun z hz => ?_, u3, sm1⟩
          · rw [hti]
            exact List.mem_append_left _ (u1 z hz)
          · rw [hti] at hz
            rcases List.mem_append.mp hz with hz | hz
            · exact u2 z hz
            · rw [List.mem_singleton] at hz
              subst hz
              exact List.mem_map.mpr ⟨u, mu, hk⟩
        · rw [decide_eq_false hk]
          refine iteT ?_
          refine ⟨_, rfl, .inl ⟨rfl, _, SqL.of eD⟩, _, rfl, D, _, _, rfl, rfl, eD, small1000 (by rw [List.length_map]; omega), ?_⟩
          refine add fun z hz => ?_
          have hlu : ordOf 128 u < ordOf 128 L[i] := by
            have h1 := le u mu
            have h2 : ordOf 128 u ≠ ordOf 128 L[i] := fun e => hk (ord_inj (tU u mu) tx e)
            omega
          have u3' := u3
          rw [hU, List.map_append] at u3'
          have hz' := hz
          rw [hU] at hz'
          rcases List.mem_append.mp hz' with h | h
          · have := (List.pairwise_append.mp u3').2.2 (ordOf 128 z) (List.mem_map.mpr ⟨z, h, rfl⟩) (ordOf 128 u) (List.mem_cons_self ..)
            omega
          · rw [List.mem_singleton] at h
            subst h
            exact hlu
    · rintro σ J ⟨y2, U, rfl, hD, u1, u2, u3, sm⟩
      rw [List.length_map, List.take_length] at u1 u2
      refine ⟨_, rfl, KQ D U J nD hD (Srt.strict (fun z hz => pm.mem_iff.mp (u1 z hz)) (fun z hz => u2 z (pm.mem_iff.mpr hz)) u3) ?_⟩
      intro c o hc
      exact sm c o (ne_of_none hc nD) (s01 _ _ hc)
end
end Wb
namespace Wb
open PySem PySem.Spec PyProof.Rows L2 RZ Sg
/-- a web told as a tuple -/
structure MW (K : PySem.W.Frag) (H : Hp) (p : Addr) (n : Int) (a m : Addr) (As Ms : List TK) : Prop where
  tp : H p = some (.tup [.int n, .ref a, .ref m])
  ha : H a = some (.lst (refs As))
  hm : H m = some (.lst (refs Ms))
  qa : ∀ z ∈ As, SqT K H z.1 (z.2.map kV)
  qm : ∀ z ∈ Ms, SqT K H z.1 (z.2.map kV)
  ka : ∀ z ∈ As, AK n z.2
  km : ∀ z ∈ Ms, MK n z.2
  na : (As.map (·.2)).Nodup
  nm : (Ms.map (·.2)).Nodup
  ra : As.Pairwise fun p q => ordOf 128 p ≤ ordOf 128 q
  rm : Ms.Pairwise fun p q => ordOf 128 p ≤ ordOf 128 q
  la : As.length ≤ 60
  lm : Ms.length ≤ 60
  n0 : 0 ≤ n
  n1 : n ≤ 30
theorem MW.same {K : PySem.W.Frag} {H H' : Hp} {p a m : Addr} {n : Int} {As Ms : List TK} (s : Same H H') (h : MW K H p n a m As Ms) : MW K H' p n a m As Ms :=
  { h with tp := s _ _ h.tp, ha := s _ _ h.ha, hm := s _ _ h.hm, qa := fun z hz => same_tup s (h.qa z hz), qm := fun z hz => same_tup s (h.qm z hz) }
theorem bx_at {H : Hp} {b q : Addr} (B : Bx H b q) : ∃ xs, H b = some (.lst xs) := by
  obtain ⟨ns, i, r, k, hb, _⟩ := B
  exact ⟨_, hb⟩
theorem bx_same {H H' : Hp} {b q : Addr} (s : Same H H') (B : Bx H b q) : Bx H' b q := by
  obtain ⟨ns, i, r, k, hb, hq, h⟩ := B
  exact ⟨ns, i, r, k, s _ _ hb, s _ _ hq, h⟩
theorem bx_tup {K : PySem.W.Frag} {b q p : Addr} {H H' : Hp} {xs : List V} (B : Bx H b q) (s : Xt b H H') (h : SqT K H p xs) : SqT K H' p xs := by
  obtain ⟨ys, hb⟩ := bx_at B
  exact xt_tup' s hb h
theorem MW.xt {K : PySem.W.Frag} {H H' : Hp} {b q p a m : Addr} {n : Int} {As Ms : List TK} (B : Bx H b q) (s : Xt b H H') (h : MW K H p n a m As Ms) : MW K H' p n a m As Ms := by
  obtain ⟨ys, hb⟩ := bx_at B
  exact { h with tp := s _ _ (ne_of h.tp hb (fun z => nomatch z)) h.tp, ha := s _ _ (bx_nr B h.ha) h.ha, hm := s _ _ (bx_nr B h.hm) h.hm, qa := fun z hz => xt_tup' s hb (h.qa z hz), qm := fun z hz => xt_tup' s hb (h.qm z hz) }
theorem hue_cp {c : Str} (h : c ∈ (["a", "b", "c"] : List Str)) : ∃ k : Nat, c = ⟨#[k]⟩ ∧ (k = 97 ∨ k = 98 ∨ k = 99) := by
  simp only [List.mem_cons, List.not_mem_nil, or_false] at h
  rcases h with rfl | rfl | rfl
  · exact ⟨97, by decide +kernel, .inl rfl⟩
  · exact ⟨98, by decide +kernel, .inr (.inl rfl)⟩
  · exact ⟨99, by decide +kernel, .inr (.inr rfl)⟩
theorem sign_cp {c : Str} (h : c ∈ (["p", "q", "r"] : List Str)) : ∃ k : Nat, c = ⟨#[k]⟩ ∧ (k = 112 ∨ k = 113 ∨ k = 114) := by
  simp only [List.mem_cons, List.not_mem_nil, or_false] at h
  rcases h with rfl | rfl | rfl
  · exact ⟨112, by decide +kernel, .inl rfl⟩
  · exact ⟨113, by decide +kernel, .inr (.inl rfl)⟩
  · exact ⟨114, by decide +kernel, .inr (.inr rfl)⟩
theorem seq_ret {te : TE} {rest : TS} {D : Ends} {σ : L2.St} {H : Hp} (h : te σ H D.rt) : tSeq (tRet te) rest D σ H := h
/-- a list of ties, being drawn -/
def CL (K : PySem.W.Frag) (b q : Addr) (G : List Key → Prop) (H1 : Hp) (D : Addr) (i : Nat) (J : Hp) : Prop := ∃ ks : List TK, J D = some (.lst (refs ks)) ∧ ks.length = i ∧ (∀ z ∈ ks, SqT K J z.1 (z.2.map kV) ∧ G z.2) ∧ Bx J b q ∧ Xt b H1 J
theorem CL.new {K : PySem.W.Frag} {b q D : Addr} {G : List Key → Prop} {H1 : Hp} (B : Bx H1 b q) (nD : H1 D = none) : CL K b q G H1 D 0 (upd H1 D (.lst [])) :=
  ⟨[], upd_same, rfl, (fun z hz => nomatch hz), B.new nD, (Xt.refl b H1).new nD⟩
theorem CL.add {K : PySem.W.Frag} {b q D p : Addr} {G : List Key → Prop} {H1 J J' : Hp} {i : Nat} {k : List Key} (B : Bx H1 b q) (nD : H1 D = none) (h : CL K b q G H1 D i J) (hi : i < 1000) (B' : Bx J' b q) (x : Xt b J J') (hp : J' p = some (.tup (k.map kV))) (g : G k) :
    ∃ acc, J' D = some (.lst acc) ∧ acc.length < sizeLine ∧ CL K b q G H1 D (i + 1) (upd J' D (.lst (acc ++ [.ref p]))) := by
  obtain ⟨ks, hD, hl, hk, BJ, xJ⟩ := h
  have nb : D ≠ b := B.ne nD
  have hD' := x _ _ nb hD
  refine ⟨refs ks, hD', by rw [List.length_map]; exact small1000 (by omega), ks ++ [(p, k)], ?_, by rw [List.length_append, hl]; rfl, fun z hz => ?_, B'.upd nb (B.neq nD), fun c o hc ec => ?_⟩
  · rw [upd_same]
    show _ = some (HO.lst (List.map _ (ks ++ [_])))
    rw [List.map_append]
    rfl
  · rcases List.mem_append.mp hz with hz | hz
    · exact ⟨xt_tup' (Xt.refl D J').put hD' (bx_tup BJ x (hk z hz).1), (hk z hz).2⟩
    · rw [List.mem_singleton] at hz
      subst hz
      refine ⟨SqT.of ?_, g⟩
      rw [upd_ne (ne_of hp hD' (fun z => nomatch z))]
      exact hp
  · rw [upd_ne (ne_of_none ec nD)]
    exact x _ _ hc (xJ c o hc ec)
theorem CL.xt {K : PySem.W.Frag} {b q D : Addr} {G : List Key → Prop} {H1 J J' : Hp} {i : Nat} (h : CL K b q G H1 D i J) (nb : D ≠ b) (B' : Bx J' b q) (x : Xt b J J') : CL K b q G H1 D i J' := by
  obtain ⟨ks, hD, hl, hk, BJ, xJ⟩ := h
  exact ⟨ks, x _ _ nb hD, hl, fun z hz => ⟨bx_tup BJ x (hk z hz).1, (hk z hz).2⟩, B', xJ.trans x⟩
section
variable {P : Program} {w : World} {K : PySem.W.Frag} {mg : Str → Option Value} {base : Heap}
def spSign : Sp := fun vs H Q _ => ∃ b q, vs = [.ref b] ∧ Bx H b q ∧ ∀ (c : Str) H', c ∈ (["p", "q", "r"] : List Str) → Bx H' b q → Xt b H H' → Q (.str c) H'
theorem scSg : FnScope ["_law_box_here"] ["_law_box_here"] (defScope sSign) := ⟨rfl, rfl, rfl, by decide +kernel, rfl, by decide +kernel, by decide +kernel⟩
theorem ok_sign {f fO : Addr} {fd fdO : FuncData} (F : Fun K "_law_sign" "_law_sign" sSign f fd) (O : Df P w K mg base 2 "_law_one" ["_law_box_here", "_law_some"] (spOne K) fO fdO) : FnOk P w K mg base CX0 3 f fd ["_law_box_here"] spSign := by
  refine F.ok scSg (fun vs H Q E h => ?_) (fun cdv A outer s H vs Q E hr h => ?_)
  · obtain ⟨b, q, rfl, _⟩ := h
    rfl
  · obtain ⟨b, q, rfl, B, K1⟩ := h
    refine ⟨_, pss_one (ps_ret (pe_call O.ok hr (by rfl) O.gl O.kp O.bd .nil pass0 (pa_cons (pv 0) (pa_cons (pe_lst (pa_cons pe_str (pa_cons pe_str (pa_cons pe_str (pa_cons pe_str pa_nil))))) pa_nil)))), ?_⟩
    refine ⟨_, rfl, by show 4 ≤ sizeLine; decide, fun p np => ?_⟩
    refine .inl ⟨b, q, p, _, rfl, B.new np, SqL.of upd_same, B.ne np, by simp, by show 4 ≤ 1000; decide, fun v H' hv B' kp => ?_⟩
    obtain ⟨c, rfl, hc⟩ : ∃ c : Str, v = .str c ∧ c ∈ (["p", "q", "r"] : List Str) := by
      simp only [List.mem_cons, List.not_mem_nil, or_false] at hv
      rcases hv with rfl | rfl | rfl | rfl
      all_goals exact ⟨_, rfl, by simp⟩
    exact K1 c H' hc B' (((Xt.refl b H).new np).trans kp.xt)
/-! ### a web drawn -/
def spWeb (K : PySem.W.Frag) : Sp := fun vs H Q _ => ∃ b q lo hi, vs = [.ref b, .int lo, .int hi] ∧ Bx H b q ∧ 0 ≤ lo ∧ lo ≤ hi ∧ hi ≤ 30 ∧ ∀ p n a m As Ms H', lo ≤ n → n ≤ hi → MW K H' p n a m As Ms → Bx H' b q → Xt b H H' → Q (.ref p) H'
end
end Wb
namespace Wb
open PySem PySem.Spec PyProof.Rows L2 RZ Sg
/-- what callers hold of a method of no arguments -/
structure Mf (P : Program) (w : World) (K : PySem.W.Frag) (mg : Str → Option Value) (base : Heap) (k : Nat) (C : Addr) (m : Str) (sp : Sp) (f : Addr) (fd : FuncData) : Prop where
  ok : FnOk P w K mg base CX0 k f fd ["self"] sp
  mt : Meth K C m f
  bd : Binds K fd ["self"] []
section
variable {P : Program} {w : World} {K : PySem.W.Frag} {mg : Str → Option Value} {base : Heap}
/-! ### making a web, with its names in any order -/
abbrev psI : List Str := ["self", "points", "arrows", "marks"]
def g1 {α : Type} (us _mv ws : List α) : List α := match us, ws with | [s, p], [m, a] => [s, p, a, m] | _, _ => []
def g2 {α : Type} (us _mv ws : List α) : List α := match us, ws with | [s, p], [a, m] => [s, p, a, m] | _, _ => []
def g3 {α : Type} (us mv ws : List α) : List α := match us, mv, ws with | [s], [a, m], [p] => [s, p, a, m] | _, _, _ => []
def g4 {α : Type} (us mv ws : List α) : List α := match us, mv, ws with | [s, p], [a], [m] => [s, p, a, m] | _, _, _ => []
theorem vals1 {vs : List V} {u : Value} {us : List Value} (h : Vals vs (u :: us)) : ∃ v vs', vs = v :: vs' ∧ RelV v u ∧ Vals vs' us := by
  cases h with
  | cons a b => exact ⟨_, _, rfl, a, b⟩
theorem vals0 {vs : List V} (h : Vals vs []) : vs = [] := by
  cases h
  rfl
theorem kb1 {f : Addr} {fd : FuncData} {kws : List (Str × V)} (F : FunD K "__init__" "Web.__init__" (defArgs sInit) (defBody sInit) (defScope sInit) [] kws f fd) (hk : kws ≠ []) : ∃ mv : List Value, KBn K fd psI 2 ["marks", "arrows"] (fun us ws => g1 us mv ws) (fun vs zs => g1 vs [] zs) := by
  refine F.kbinds0 2 ["marks", "arrows"] [] g1 hk (fun q h => nomatch h) ?_ ?_
  · intro vs mz zs us mv ws h1 h2 h3
    cases h1 with
    | nil => exact .nil
    | cons a0 ta0 =>
      cases ta0 with
      | nil => exact .nil
      | cons a1 ta1 =>
        cases ta1 with
        | cons _ _ => exact .nil
        | nil =>
          cases h3 with
          | nil => exact .nil
          | cons b0 tb0 =>
            cases tb0 with
            | nil => exact .nil
            | cons b1 tb1 =>
              cases tb1 with
              | cons _ _ => exact .nil
              | nil =>
                exact .cons a0 (.cons a1 (.cons b1 (.cons b0 .nil)))
  · intro D doc pm an cdv ct us mv ws l1 l2 l3
    match us, mv, ws, l1, l2, l3 with
    | [s, p], [], [m, a], _, _, _ => exact rfl
theorem kb2 {f : Addr} {fd : FuncData} {kws : List (Str × V)} (F : FunD K "__init__" "Web.__init__" (defArgs sInit) (defBody sInit) (defScope sInit) [] kws f fd) (hk : kws ≠ []) : ∃ mv : List Value, KBn K fd psI 2 ["arrows", "marks"] (fun us ws => g2 us mv ws) (fun vs zs => g2 vs [] zs) := by
  refine F.kbinds0 2 ["arrows", "marks"] [] g2 hk (fun q h => nomatch h) ?_ ?_
  · intro vs mz zs us mv ws h1 h2 h3
    cases h1 with
    | nil => exact .nil
    | cons a0 ta0 =>
      cases ta0 with
      | nil => exact .nil
      | cons a1 ta1 =>
        cases ta1 with
        | cons _ _ => exact .nil
        | nil =>
          cases h3 with
          | nil => exact .nil
          | cons b0 tb0 =>
            cases tb0 with
            | nil => exact .nil
            | cons b1 tb1 =>
              cases tb1 with
              | cons _ _ => exact .nil
              | nil =>
                exact .cons a0 (.cons a1 (.cons b0 (.cons b1 .nil)))
  · intro D doc pm an cdv ct us mv ws l1 l2 l3
    match us, mv, ws, l1, l2, l3 with
    | [s, p], [], [a, m], _, _, _ => exact rfl
theorem kb3 {f : Addr} {fd : FuncData} {ta tm : Addr} (F : FunD K "__init__" "Web.__init__" (defArgs sInit) (defBody sInit) (defScope sInit) [] [("arrows", .ref ta), ("marks", .ref tm)] f fd) : ∃ mv : List Value, KBn K fd psI 1 ["points"] (fun us ws => g3 us mv ws) (fun vs zs => g3 vs [.ref ta, .ref tm] zs) := by
  refine F.kbinds0 1 ["points"] [("arrows", .ref ta), ("marks", .ref tm)] g3 (fun z => nomatch z) (fun q h => h) ?_ ?_
  · intro vs mz zs us mv ws h1 h2 h3
    cases h1 with
    | nil => exact .nil
    | cons a0 ta0 =>
      cases ta0 with
      | cons _ _ => exact .nil
      | nil =>
        cases h2 with
        | nil => exact .nil
        | cons c0 tc0 =>
          cases tc0 with
          | nil => exact .nil
          | cons c1 tc1 =>
            cases tc1 with
            | cons _ _ => exact .nil
            | nil =>
              cases h3 with
              | nil => exact .nil
              | cons b0 tb0 =>
                cases tb0 with
                | cons _ _ => exact .nil
                | nil =>
                  exact .cons a0 (.cons b0 (.cons c0 (.cons c1 .nil)))
  · intro D doc pm an cdv ct us mv ws l1 l2 l3
    match us, mv, ws, l1, l2, l3 with
    | [s], [a, m], [p], _, _, _ => exact ⟨_, _, _, _, _, _, rfl, rfl, _, _, _, _, _, _, rfl, rfl, rfl⟩
theorem kb4 {f : Addr} {fd : FuncData} {ta tm : Addr} (F : FunD K "__init__" "Web.__init__" (defArgs sInit) (defBody sInit) (defScope sInit) [] [("arrows", .ref ta), ("marks", .ref tm)] f fd) : ∃ mv : List Value, KBn K fd psI 2 ["marks"] (fun us ws => g4 us mv ws) (fun vs zs => g4 vs [.ref ta] zs) := by
  refine F.kbinds0 2 ["marks"] [("arrows", .ref ta)] g4 (fun z => nomatch z) (fun q h => List.mem_cons.mpr (.inl (List.mem_singleton.mp h))) ?_ ?_
  · intro vs mz zs us mv ws h1 h2 h3
    cases h1 with
    | nil => exact .nil
    | cons a0 ta0 =>
      cases ta0 with
      | nil => exact .nil
      | cons a1 ta1 =>
        cases ta1 with
        | cons _ _ => exact .nil
        | nil =>
          cases h2 with
          | nil => exact .nil
          | cons c0 tc0 =>
            cases tc0 with
            | cons _ _ => exact .nil
            | nil =>
              cases h3 with
              | nil => exact .nil
              | cons b0 tb0 =>
                cases tb0 with
                | cons _ _ => exact .nil
                | nil =>
                  exact .cons a0 (.cons a1 (.cons c0 (.cons b0 .nil)))
  · intro D doc pm an cdv ct us mv ws l1 l2 l3
    match us, mv, ws, l1, l2, l3 with
    | [s, p], [a], [m], _, _, _ => exact ⟨_, _, _, _, _, _, rfl, rfl, rfl⟩
end
end Wb
namespace Wb
open PySem PySem.Spec PyProof.Rows L2 RZ Sg
theorem cut_to {xs : List V} (k : Nat) : cutV xs none (some (k : Int)) = xs.take k := by
  unfold cutV
  rw [HT.sIx_none, show HT.sIx xs.length xs.length (some ((k : Nat) : Int)) = min k xs.length from HT.sIx_nat xs.length xs.length k, List.drop_zero, Nat.sub_zero]
  by_cases h : k ≤ xs.length
  · rw [Nat.min_eq_left h]
  · rw [Nat.min_eq_right (by omega), List.take_length, List.take_of_length_le (by omega)]
theorem sv_keys {K : PySem.W.Frag} {H : Hp} : ∀ k : List Key, Paired (Sv K H 0) (k.map kV) (k.map kV)
  | [] => .nil
  | k :: ks => .cons (by cases k <;> exact ⟨rfl, rfl⟩) (sv_keys ks)
theorem sv_tie {K : PySem.W.Frag} {H : Hp} {a b : Addr} {k : List Key} (hk : k.length ≤ 1000) (h1 : SqT K H a (k.map kV)) (h2 : SqT K H b (k.map kV)) : Sv K H 1 (.ref a) (.ref b) :=
  .inr ⟨a, b, _, _, rfl, rfl, .inr ⟨h1, h2⟩, by rw [List.length_map]; omega, sv_keys k⟩
theorem sv_refs {K : PySem.W.Frag} {H : Hp} : ∀ {U V : List TK}, U.map (·.2) = V.map (·.2) → (∀ z ∈ U, SqT K H z.1 (z.2.map kV)) → (∀ z ∈ V, SqT K H z.1 (z.2.map kV)) → (∀ z ∈ V, z.2.length ≤ 1000) → Paired (Sv K H 1) (refs U) (refs V)
  | [], [], _, _, _, _ => .nil
  | [], _ :: _, h, _, _, _ => by cases h
  | _ :: _, [], h, _, _, _ => by cases h
  | p :: U, q :: V, h, h1, h2, h3 => by
    rw [List.map_cons, List.map_cons] at h
    injection h with ha hb
    refine .cons (sv_tie (k := q.2) (h3 q (List.mem_cons_self ..)) ?_ (h2 q (List.mem_cons_self ..))) (sv_refs hb (fun z hz => h1 z (List.mem_cons_of_mem _ hz)) (fun z hz => h2 z (List.mem_cons_of_mem _ hz)) fun z hz => h3 z (List.mem_cons_of_mem _ hz))
    have := h1 p (List.mem_cons_self ..)
    rw [show p.2 = q.2 from ha] at this
    exact this
theorem srt_eq {d : Nat} {ks U V : List TK} (s : Srt ks U) (h : ∀ k, k ∈ ks.map (·.2) ↔ k ∈ V.map (·.2)) (t1 : ∀ p ∈ ks, TieK 128 d p.2) (t2 : ∀ p ∈ V, TieK 128 d p.2) (nd : (V.map (·.2)).Nodup) (ris : V.Pairwise fun p q => ordOf 128 p ≤ ordOf 128 q) : U.map (·.2) = V.map (·.2) := by
  refine same_keys (fun p hp => t1 p (s.of p hp)) t2 s.nd nd s.ris ris fun k => ⟨fun hk => ?_, fun hk => ?_⟩
  · obtain ⟨p, hp, rfl⟩ := List.mem_map.mp hk
    exact (h _).mp (List.mem_map.mpr ⟨p, s.of p hp, rfl⟩)
  · obtain ⟨p, hp, e⟩ := List.mem_map.mp ((h k).mpr hk)
    rw [← e]
    exact s.all p hp
/-- the told tuple is the tuple drawn -/
theorem sv_told {K : PySem.W.Frag} {H : Hp} {tp ta tm p a m : Addr} {n : Int} {As Ms Us Vs : List TK} (h1 : H tp = some (.tup [.int n, .ref ta, .ref tm])) (h2 : H ta = some (.lst (refs Us))) (h3 : H tm = some (.lst (refs Vs))) (W : MW K H p n a m As Ms)
    (e1 : Us.map (·.2) = As.map (·.2)) (e2 : Vs.map (·.2) = Ms.map (·.2)) (q1 : ∀ z ∈ Us, SqT K H z.1 (z.2.map kV)) (q2 : ∀ z ∈ Vs, SqT K H z.1 (z.2.map kV)) : Sv K H 3 (.ref tp) (.ref p) := by
  have l1 : Us.length = As.length := by
    have := congrArg List.length e1
    rwa [List.length_map, List.length_map] at this
  have l2 : Vs.length = Ms.length := by
    have := congrArg List.length e2
    rwa [List.length_map, List.length_map] at this
  have w1 := W.la
  have w2 := W.lm
  refine .inr ⟨tp, p, _, _, rfl, rfl, .inr ⟨SqT.of h1, SqT.of W.tp⟩, by show 3 ≤ 100000; decide, .cons (.inl ⟨rfl, rfl⟩) (.cons (.inr ⟨ta, a, _, _, rfl, rfl, .inl ⟨SqL.of h2, SqL.of W.ha⟩, by rw [List.length_map]; omega, sv_refs e1 q1 W.qa fun z hz => ?_⟩) (.cons (.inr ⟨tm, m, _, _, rfl, rfl, .inl ⟨SqL.of h3, SqL.of W.hm⟩, by rw [List.length_map]; omega, sv_refs e2 q2 W.qm fun z hz => ?_⟩) .nil))⟩
  · have n1 := W.n1
    rw [((W.ka z hz).tie (by omega)).len]
    decide
  · have n1 := W.n1
    rw [((W.km z hz).tie (by omega)).len]
    decide
section
variable {P : Program} {w : World} {K : PySem.W.Frag} {mg : Str → Option Value} {base : Heap}
theorem mk_use {C x dx la lm : Addr} {J : Hp} {ka km : List TK} {n : Int} {Q : Hp → Prop} {E : XK} (nx : J x = none) (ndx : J dx = none) (ne : dx ≠ x) (n0 : 0 ≤ n) (n1 : n ≤ 81) (ta : TL K J la ka) (ga : ∀ p ∈ ka, AK n p.2) (l64 : ka.length < 64) (tm : TL K J lm km) (gm : ∀ p ∈ km, MK n p.2) (m64 : km.length < 64)
    (q : ∀ J' As Ms, (∀ J'', (∀ c o, J c = none → J' c = some o → J'' c = some o) → WebAt C J'' x n As Ms) → Srt ka As → Srt km Ms → Same J J' → Q J') : spInit K C [.ref x, .int n, .ref la, .ref lm] (upd (upd J dx (.own x)) x (.ins C dx [])) (fun v H3 => v = .non ∧ Q H3) E := by
  have s1 : Same J (upd J dx (.own x)) := same_upd ndx
  have nx1 : (upd J dx (.own x)) x = none := by
    rw [upd_ne ne.symm]
    exact nx
  have s2 : Same (upd J dx (.own x)) (upd (upd J dx (.own x)) x (.ins C dx [])) := same_upd nx1
  have s := s1.trans s2
  refine ⟨x, dx, n, la, lm, ka, km, rfl, upd_same, n0, n1, ta.same s, ga, l64, tm.same s, gm, m64, fun J' As Ms W sA sM xt => ⟨rfl, q J' As Ms (fun J'' kp => W J'' fun c o hc e => kp c o ?_ e) sA sM fun c o hc => ?_⟩⟩
  · rcases hc with hc | rfl
    · exact s.free hc
    · exact nx
  exact xt c o (ne_of_none hc nx) (s c o hc)
end
end Wb
namespace Tm
open PySem PySem.Spec PyProof.Rows L2
/-! ### several clauses, each of one or more classes, each with a name -/
theorem flyZ_keeps {base h h' : Heap} {l : List Env} {e : Addr} {Z : Obj → Prop} (x : HandSPX.FlyingZ base l e Z h) (k : ∀ b o, h.get? b = some o → h'.get? b = some o) : HandSPX.FlyingZ base l e Z h' := by
  obtain ⟨f1, f2, f3, oe, vs, T, oT, ts, he, hz, hd, h1, hn, hne, hT, hdT, h3⟩ := x
  exact ⟨fun b o q => k b o (f1 b o q), f2, f3.of_keeps fun b o q _ => ⟨o, k b o q, rfl⟩, oe, vs, T, oT, ts, k _ _ he, hz, hd, h1, hn, hne, k _ _ hT, hdT, h3⟩
/-- the clause's classes are told by t -/
def TestOk (X : Cx) (t : Expr) (cs : List Value) : Prop := ∀ (a : Addr) (pn : List (Addr × Obj)) (s : Shared) (σ : L2.St) (H : Hp) (cls : Value) (b : Bool) (Q : Bool → Shared → Prop) (E : Value → Shared → Prop), Inv (X.suite a pn) [] σ H s → PySem.W.Looks (model X.prog X.w) s.heap (typeOf (.ref a)) cls → PySem.W.exmAny X.K cls cs = some b →
  (∀ h', (∀ q o, s.heap.get? q = some o → h'.get? q = some o) → Q b { s with heap := h' }) →
  wpAny (model X.prog X.w) (X.A.mark (some (.ref a))) (eval t X.env) (fun c s1 => wpAny (model X.prog X.w) (X.A.mark (some (.ref a))) (excMatches (.ref a) c) Q E s1) E s
section
variable {X : Cx}
theorem name_ok {x : Str} {c : Value} {np : Pos} {a : Addr} {pn : List (Addr × Obj)} {s : Shared} {σ : L2.St} {H : Hp} {Q : Value → Shared → Prop} {E : Value → Shared → Prop} (hc : Names X x c) (I : Inv (X.suite a pn) [] σ H s) (q : Q c s) : wpAny (model X.prog X.w) (X.A.mark (some (.ref a))) (eval (.Name x np) X.env) Q E s := by
  obtain ⟨hg, hdbg, hm | ⟨hm, hv, hnn⟩⟩ := hc
  · exact ld_glob (X := X.suite a pn) I hg hm q hdbg
  · exact ld_blt (X := X.suite a pn) I hg hm hv q hnn hdbg
theorem test_one {x : Str} {c : Value} {np : Pos} (hc : Names X x c) : TestOk X (.Name x np) [c] := fun a pn s σ H cls b Q E I LT hx q => by
  obtain ⟨b1, d1, x1, y1, z1⟩ := PySem.W.exmAny_cons hx
  have y2 : some false = some d1 := y1
  cases y2
  rw [Bool.or_false] at z1
  subst z1
  exact name_ok hc I ((PySem.W.exm_one I.kIn LT x1).here (q s.heap fun _ _ z => z))
theorem test_three {x1 x2 x3 : Str} {c1 c2 c3 : Value} {p1 p2 p3 tp : Pos} {kk : Nat} (n1 : Names X x1 c1) (n2 : Names X x2 c2) (n3 : Names X x3 c3) : TestOk X (.Tuple [.Name x1 p1, .Name x2 p2, .Name x3 p3] kk tp) [c1, c2, c3] := fun a pn s σ H cls b Q E I LT hx q => by
  refine wpAny_Tuple ?_
  refine wpAny_items_cons (name_ok n1 I ?_)
  refine wpAny_items_cons (name_ok n2 I ?_)
  refine wpAny_items_cons (name_ok n3 I ?_)
  refine wpAny_items_nil ⟨by size_fits, ?_⟩
  have kp : ∀ q o, s.heap.get? q = some o → (s.heap.push { cls := .type "tuple", data := .seq [c1, c2, c3].toArray }).get? q = some o := fun _ _ z => Heap.get?_push_of_some _ z
  exact (PySem.W.exm_tup3 (I.kIn.keeps kp) (LT.keeps kp) (Heap.get?_push_size s.heap rfl) hx).here (q _ kp)
theorem test_four {x1 x2 x3 x4 : Str} {c1 c2 c3 c4 : Value} {p1 p2 p3 p4 tp : Pos} {kk : Nat} (n1 : Names X x1 c1) (n2 : Names X x2 c2) (n3 : Names X x3 c3) (n4 : Names X x4 c4) : TestOk X (.Tuple [.Name x1 p1, .Name x2 p2, .Name x3 p3, .Name x4 p4] kk tp) [c1, c2, c3, c4] := fun a pn s σ H cls b Q E I LT hx q => by
  refine wpAny_Tuple ?_
  refine wpAny_items_cons (name_ok n1 I ?_)
  refine wpAny_items_cons (name_ok n2 I ?_)
  refine wpAny_items_cons (name_ok n3 I ?_)
  refine wpAny_items_cons (name_ok n4 I ?_)
  refine wpAny_items_nil ⟨by size_fits, ?_⟩
  have kp : ∀ q o, s.heap.get? q = some o → (s.heap.push { cls := .type "tuple", data := .seq [c1, c2, c3, c4].toArray }).get? q = some o := fun _ _ z => Heap.get?_push_of_some _ z
  exact (PySem.W.exm_tup4 (I.kIn.keeps kp) (LT.keeps kp) (Heap.get?_push_size s.heap rfl) hx).here (q _ kp)
end
abbrev Cl : Type := List Value × Nat × (Addr → Value → Option Addr → TS)
/-- the ends of a suite whose name, in slot i, goes -/
abbrev endsOf (i : Nat) (D : Ends) : Ends := { nx := fun σ' H' => D.nx (σ'.set i none) H', rt := D.rt, bk := fun σ' H' => D.bk (σ'.set i none) H', ct := fun σ' H' => D.ct (σ'.set i none) H' }
def wM (K : PySem.W.Frag) (Wout : WX) (D : Ends) : List Cl → WX
  | [] => Wout
  | (cs, i, ts) :: r => fun cls d σ H => ∃ b, PySem.W.exmAny K cls cs = some b ∧ (b = true → ∀ a, H a = none → ts a cls d (endsOf i D) (σ.set i (some (.ref a))) H) ∧ (b = false → wM K Wout D r cls d σ H)
inductive HdsA (X : Cx) : List ExceptHandler → List Cl → Prop
  | nil : HdsA X [] []
  | cons {t : Expr} {n : Str} {cs : List Value} {i : Nat} {ts : Addr → Value → Option Addr → TS} {b₀ : Stmt} {suite : List Stmt} {pos' : Pos} {hds : List ExceptHandler} {l : List Cl} (ht : TestOk X t cs) (hi : X.N[i]? = some n) (hln : X.env.kindOf n = some .local)
      (hsu : ∀ (a : Addr) (oe : Obj) (cls : Value) (d : Option Addr) (pn : List (Addr × Obj)), Zc cls d oe → (∃ vs, oe.data = .fields vs) → PSs (X.suite a ((a, oe) :: pn)) (b₀ :: suite) (ts a cls d)) (r : HdsA X hds l) :
      HdsA X (.ExceptHandler (some t) (some n) (b₀ :: suite) pos' :: hds) ((cs, i, ts) :: l)
/-- an error of the class cls is in the air: g, the state in which it came up; G, what it may not touch -/
structure Air (X : Cx) (pins : List (Addr × Obj)) (st : L2.St) (M : Hp) (cls : Value) (dd : Option Addr) (ea : Addr) (G : Heap) (g now : Shared) : Prop where
  inv : Inv X pins st M g
  keeps : ∀ p ob, g.heap.get? p = some ob → p ∉ frs X.stack → G.get? p = some ob
  slots : g.heap.UpToSlots now.heap
  new : M ea = none
  same : now.os = g.os
  bare : AllBare now.gens
section
variable {X : Cx} {pins : List (Addr × Obj)} {st : L2.St} {M : Hp} {cls : Value} {dd : Option Addr} {ea : Addr} {G : Heap} {g now : Shared}
theorem Air.land (a : Air X pins st M cls dd ea G g now) {k : Heap} (fl : HandSPX.FlyingZ G (X.env :: X.outer) ea (Zc cls dd) k) (u : now.heap.UpToSlots k) : Inv X pins st M { now with heap := k } :=
  a.inv.landed a.keeps fl.1 (a.slots.trans u) a.same a.bare
theorem not_frame {k : Heap} (fl : HandSPX.FlyingZ G (X.env :: X.outer) ea (Zc cls dd) k) : ea ∉ frs (X.env :: X.outer) := fun hm => by
  obtain ⟨ob, us, ho, _, hu⟩ := fl.there
  obtain ⟨_, ob2, ho2, no⟩ := fl.2.2.1.mem hm
  cases ho.symm.trans ho2
  exact no us hu
theorem not_locals (hf : X.env.frame = some X.env.locals) (nf : ea ∉ frs (X.env :: X.outer)) : ea ≠ X.env.locals := fun z =>
  nf (List.mem_filterMap.mpr ⟨X.env, List.mem_cons_self, by rw [hf, z]⟩)
theorem not_outer (nf : ea ∉ frs (X.env :: X.outer)) : ea ∉ X.fs := fun hm => by
  obtain ⟨v, hv, hq⟩ := List.mem_filterMap.mp hm
  exact nf (List.mem_filterMap.mpr ⟨v, List.mem_cons_of_mem _ hv, hq⟩)
/-- no clause met it: it goes on -/
theorem air_on {Wout : WX} {D : Ends} (hs : X.stack = X.env :: X.outer) (hf : X.env.frame = some X.env.locals) (tk : Takes X Wout) (a : Air X pins st M cls dd ea G g now) {k : Heap} (fl : HandSPX.FlyingZ G (X.env :: X.outer) ea (Zc cls dd) k) (u : now.heap.UpToSlots k) (w : Wout cls dd st M) :
    wpAny (model X.prog X.w) X.A (handleBy (.ref ea) X.env []) (SP X pins D) X.xe { now with heap := k } := by
  have up : wpAny (model X.prog X.w) X.A (setFlight (.ref ea) X.env.frame) (fun _ z => wpAny (model X.prog X.w) X.A (throw (.ref ea) : Sem Flow) (SP X pins D) X.xe z) X.xe { now with heap := k } := by
    rw [hf]
    exact HandSPX.setFlight_upZ fl fun m hm um => wpAny_throw (tk _ _ ⟨ea, G, g, pins, st, M, cls, dd, rfl, a.inv, a.keeps, (a.slots.trans u).trans um, .inr (.inr (by rw [hs]; exact hm)), a.new, a.same, a.bare, w⟩)
  refine wpAny_handleBy_nil ?_
  obtain ⟨_, _, _, ob, us, tb, _, _, ho, _, hu, h1, _⟩ := id fl
  unfold PySem.passOn
  refine wpAny_bind (wpAny_field ho hu h1 ?_)
  rw [if_neg (by simp : ¬ ((Value.ref tb == Value.none) = true))]
  first
    | exact wpAny_bind (wpAny_pure (wpAny_bind up))
    | exact wpAny_bind up
/-- a clause's suite, its name bound and gone behind it -/
theorem air_suite {E1 E2 : Value → Shared → Prop} {i : Nat} {n : Str} {pos' : Pos} {b₀ : Stmt} {suite : List Stmt} {ts : Addr → Value → Option Addr → TS} {D : Ends} (hf : X.env.frame = some X.env.locals) (hN : X.N.Nodup) (hi : X.N[i]? = some n) (hl : X.env.kindOf n = some .local) (a : Air X pins st M cls dd ea G g now) (nf : ea ∉ frs (X.env :: X.outer))
    (hsu : ∀ (a : Addr) (oe : Obj) (cls : Value) (d : Option Addr) (pn : List (Addr × Obj)), Zc cls d oe → (∃ vs, oe.data = .fields vs) → PSs (X.suite a ((a, oe) :: pn)) (b₀ :: suite) (ts a cls d))
    (w : ts ea cls dd (endsOf i D) (st.set i (some (.ref ea))) M) {k : Heap} (fl : HandSPX.FlyingZ G (X.env :: X.outer) ea (Zc cls dd) k) (u : now.heap.UpToSlots k) {ob : Obj} {us : Array Value} (ho : k.get? ea = some ob) (hz : Zc cls dd ob) (hu : ob.data = .fields us) :
    wpAny (model X.prog X.w) (X.A.mark (some (.ref ea))) (storeName X.env n (.ref ea)) (fun _ z => wpAny (model X.prog X.w) (X.A.mark (some (.ref ea))) (execs (b₀ :: suite) X.env) (fun fw z2 => wpAny (model X.prog X.w) X.A (do bindName X.env n .none; unbindBehindTheSuite X.env n pos') (fun _ z3 => SP X pins D fw z3) X.xe z2) E2 z) E1 { now with heap := k } := by
  refine store_ok (X := X.suite ea ((ea, ob) :: (X.pn ++ pins))) (v := .ref ea) ((a.land fl u).suite ho hu a.new (not_locals hf nf) (not_outer nf)) hN hi (.inl hl) rfl (fun z S => ?_) (.inr hl)
  refine wpAny_mono ((hsu ea ob cls dd (X.pn ++ pins) hz ⟨_, hu⟩).run [] z _ M _ S w) (fun fw z2 hp => ?_) fun _ _ bad => bad.elim
  have away : ∀ {τ : L2.St} {L : Hp} {R : Shared → Prop}, Inv (X.suite ea ((ea, ob) :: (X.pn ++ pins))) [] τ L z2 → (∀ y, Inv X pins (τ.set i none) L y → R y) → wpAny (model X.prog X.w) X.A (do bindName X.env n .none; unbindBehindTheSuite X.env n pos') (fun _ y => R y) X.xe z2 :=
    fun S2 hR => gone_ok (S2.unsuite a.inv.ok) hN hi hl hR
  cases fw with
  | ret _ =>
    obtain ⟨v, τ, L, S2, rv, hq⟩ := hp
    exact away S2 fun y J => ⟨v, _, L, J, rv, hq⟩
  | _ =>
    obtain ⟨τ, L, S2, hq⟩ := hp
    exact away S2 fun y J => ⟨_, L, J, hq⟩
/-- the clauses, one after the other -/
theorem air_clauses {Wout : WX} {D : Ends} (hs : X.stack = X.env :: X.outer) (hf : X.env.frame = some X.env.locals) (hN : X.N.Nodup) (tk : Takes X Wout) (a : Air X pins st M cls dd ea G g now) (nf : ea ∉ frs (X.env :: X.outer)) {hds : List ExceptHandler} {l : List Cl} (hh : HdsA X hds l) :
    ∀ k : Heap, HandSPX.FlyingZ G (X.env :: X.outer) ea (Zc cls dd) k → now.heap.UpToSlots k → wM X.K Wout D l cls dd st M → wpAny (model X.prog X.w) X.A (handleBy (.ref ea) X.env hds) (SP X pins D) X.xe { now with heap := k } := by
  induction hh with
  | nil => exact fun k fl u w => air_on hs hf tk a fl u w
  | cons ht hi hl hsu _ ih =>
    rintro k fl u ⟨b, hb, yes, no⟩
    obtain ⟨ob, us, ho, hz, hu⟩ := fl.there
    have ty : PySem.W.Looks (model X.prog X.w) k (typeOf (.ref ea)) cls := fun _ _ _ _ kk hq => wpAny_typeOf_ref (kk _ _ ho) (by rw [hz.1]; exact hq)
    refine wpAny_handleBy_cons (codeAny_handlers_test (ht ea _ { now with heap := k } st M cls b _ _ ((a.land fl u).suite ho hu a.new (not_locals hf nf) (not_outer nf)) ty hb fun m kp => ?_)) (fun z => by cases z)
    have fm := flyZ_keeps fl kp
    have um := u.trans (Heap.UpToSlots.of_keeps kp)
    cases b with
    | false => exact ih m fm um (no rfl)
    | true =>
      refine codeAny_handlers_suite_as (HandSPX.lands_againZ fm fun m2 f2 u2 => ?_)
      obtain ⟨ob2, us2, ho2, hz2, hu2⟩ := f2.there
      exact air_suite hf hN hi hl a nf hsu (yes rfl ea a.new) f2 (um.trans u2) ho2 hz2 hu2
end
section
variable {X : Cx} {body : List Stmt} {c0 : ExceptHandler} {cs : List ExceptHandler} {l : List Cl} {pos : Pos} {tb : WX → TS} {Wout : WX}
theorem ps_tryM (hs : X.stack = X.env :: X.outer) (hf : X.env.frame = some X.env.locals) (hN : X.N.Nodup) (tk : Takes X Wout)
    (hb : ∀ (W : WX) (pn : List (Addr × Obj)) (xe : Value → Shared → Prop), Takes (X.tr pn xe) W → PassesOwn (model X.prog X.w) X.A X.env xe → PSs (X.tr pn xe) body (tb W))
    (hh : HdsA X (c0 :: cs) l) : PS X (.Try body (c0 :: cs) [] [] pos) (fun D σ H => tb (wM X.K Wout D l) D σ H) := by
  refine ⟨fun pins s σ H D I h => wpAny_Try_except ?_⟩
  refine wpAny_mono ((hb (wM X.K Wout D l) (X.pn ++ pins) _ ?_ PassesOwn.looking).run [] s σ H D (I.toTry _) h) (fun fw z hp => ?_) fun _ _ hx => hx
  · rintro u now ⟨ea, G, g, pins', st, M, cls, dd, rfl, J, nb, up, sky, na, os, ag, w⟩
    have a : Air X pins st M cls dd ea G g now := ⟨J.ofTry I.ok, nb, up, na, os, ag⟩
    rw [show (X.tr (X.pn ++ pins) _).stack = X.env :: X.outer from hs] at sky
    exact Sky.land Zc.steady (by rw [I.ok.frames, hs]) hf sky fun k fl uk => air_clauses hs hf hN tk a (not_frame fl) hh k fl uk w
  · cases fw with
    | ret _ =>
      obtain ⟨v, τ, L, J, rv, hq⟩ := hp
      exact ⟨v, τ, L, J.ofTry I.ok, rv, hq⟩
    | _ =>
      obtain ⟨τ, L, J, hq⟩ := hp
      first
        | exact wpAny_execs_nil ⟨τ, L, J.ofTry I.ok, hq⟩
        | exact ⟨τ, L, J.ofTry I.ok, hq⟩
end
/-! ### a field of the caught error, whatever its class -/
def tXfA (K : PySem.W.Frag) (a : Addr) (cls : Value) (d : Option Addr) (f : Str) (te : TE) : TE := fun σ H Q => te σ H fun x H1 => x = .ref a ∧ ∃ (C dd : Addr) (fs : List (Str × V)) (v : V), cls = .ref C ∧ XfC K C ∧ PySem.W.findIn K (.ref C) f = some none ∧ d = some dd ∧ H1 dd = some (.xd fs) ∧ fs.lookup f = some v ∧ Q v H1
theorem pe_xfA {X : Cx} {ea : Addr} {ob : Obj} {cls : Value} {d : Option Addr} {pn : List (Addr × Obj)} {e : Expr} {te : TE} {pos : Pos} {n : Str} (hz : Zc cls d ob) (hf : ∃ us, ob.data = .fields us) (he : PE (X.suite ea ((ea, ob) :: pn)) e te) (hb : attributeBase e n X.env (eval e X.env) = eval e X.env := by rfl) :
    PE (X.suite ea ((ea, ob) :: pn)) (.Attribute e n pos) (tXfA X.K ea cls d n te) := ⟨fun pins s σ H Q I h => attr_of hb (thn (he.run pins s σ H _ I h) fun got z ⟨y, L, J, ry, ey, C, dd, fs, v, ec, T, no, ed, hd, hl, q⟩ => by
    cases ey
    cases ec
    cases ed
    cases (show got = Value.ref ea from ry)
    obtain ⟨us, hu⟩ := hf
    have there := (J.pin (ea, ob) (List.mem_append_left _ List.mem_cons_self)).1
    obtain ⟨m, hn, rel⟩ := (show ObjOk X.prog X.w L z.heap dd (.xd fs) from J.hok dd _ hd)
    obtain ⟨od, ho, hk⟩ := lookIn_ns hn
    have rn := rel n
    rw [hl] at rn
    obtain ⟨r, hr, rr⟩ := RelO.some_of rn
    refine HandSPX.exc_get J.kIn (od := some od) ⟨there, hz.1, ?_, ?_⟩ T.ga T.gg T.exC (PySem.W.findObj_own T.hdC no rfl (by rw [hk, hr])) (handed_of rr) ⟨v, L, J.tok _, rr, q⟩
    · unfold PySem.W.notCls
      rw [hu] <;> rfl
    · rw [hz.2]
      exact ho)⟩
/-! ### what a class of errors over ValueError must have, as one Bool -/
def oexB (K : PySem.W.Frag) (C : Addr) : Bool := match K.lookup C with
  | some ⟨.type "type", _, .cls cd, sl⟩ => (match cd.mro, sl.toList with
    | .ref C' :: bm, [_, _, _, _, some (.builtin n), _] => C' == C && n == "ValueError.__new__" && !cd.hasDel && cd.hasDict && HandSPX.refsVE bm
    | _, _ => false)
  | _ => false
theorem oex_cls {K : PySem.W.Frag} {C : Addr} (q : oexB K C = true) : ∃ nm q N bs bm sn sub ab col dd k0 k1 k2 k3 k5, K.lookup C = some (excClassObj nm q C N bs bm true sn sub ab col dd k0 k1 k2 k3 k5 "ValueError.__new__") ∧ PySem.HandSPX.refsVE bm = true := by
  unfold oexB at q
  split at q
  · rename_i dd cd sl ho
    split at q
    · rename_i C' bm k0 k1 k2 k3 n k5 hm hs
      simp only [Bool.and_eq_true, beq_iff_eq, Bool.not_eq_true'] at q
      obtain ⟨⟨⟨⟨rfl, rfl⟩, hdel⟩, hdi⟩, ht⟩ := q
      obtain ⟨nm, bs, mro, ns, qn, hd, sn, sub, ab, col, del⟩ := cd
      dsimp only at hm hdel hdi
      subst hm hdel hdi
      have hsl : sl = #[k0, k1, k2, k3, some (.builtin "ValueError.__new__"), k5] := by
        obtain ⟨l⟩ := sl
        simp only at hs
        rw [hs]
      subst hsl
      exact ⟨nm, qn, ns, bs, bm, sn, sub, ab, col, dd, k0, k1, k2, k3, k5, ho, ht⟩
    · cases q
  · cases q
def errB (K : PySem.W.Frag) (C fI : Addr) (f : Str) : Bool := oexB K C && decide (PySem.W.findIn K (.ref C) "__setattr__" = some (some (.builtin "object.__setattr__"))) && decide (PySem.W.subIn K (.ref C) (.type "BaseException") = some true) && decide (PySem.W.typeIn K (.ref C) = some (.type "type")) && PySem.W.keepIn K (.ref C) &&
  xfB K C && decide (PySem.W.findIn K (.ref C) "word" = some none) && decide (PySem.W.findIn K (.ref C) f = some none) && decide (PySem.W.findIn K (.ref C) "__init__" = some (some (.ref fI))) && decide (PySem.W.typeIn K (.ref fI) = some (.type "function"))
structure ErrC (K : PySem.W.Frag) (C fI : Addr) (f : Str) : Prop where
  oe : OexC K C
  xf : XfC K C
  nw : PySem.W.findIn K (.ref C) "word" = some none
  nf : PySem.W.findIn K (.ref C) f = some none
  iC : PySem.W.findIn K (.ref C) "__init__" = some (some (.ref fI))
  tI : PySem.W.typeIn K (.ref fI) = some (.type "function")
theorem errC_of {K : PySem.W.Frag} {C fI : Addr} {f : Str} (h : errB K C fI f = true) : ErrC K C fI f := by
  unfold errB at h
  simp only [Bool.and_eq_true, decide_eq_true_eq] at h
  obtain ⟨⟨⟨⟨⟨⟨⟨⟨⟨h1, h2⟩, h3⟩, h4⟩, h5⟩, h6⟩, h7⟩, h8⟩, h9⟩, h10⟩ := h
  exact ⟨⟨oex_cls h1, h2, h3, h4, h5⟩, xfB_ok h6, h7, h8, h9, h10⟩
end Tm
namespace Tm
open PySem PySem.Spec PyProof.Rows L2 LamX
/-! ### a lambda handed to a def that calls it within a try: what is raised is wished for at the def's own slots -/
section
variable {X : Cx} {pins : List (Addr × Obj)} {σ : L2.St} {H : Hp} {s : Shared}
/-- what stands at f is the lambda of these parts, made by X -/
structure LamAt (X : Cx) (H : Hp) (s : Shared) (params : Arguments) (body : Expr) (scope : Scope) (f cf : Addr) (pm ct : Value) : Prop where
  at_ : s.heap.get? f = some (PySem.W.kla_obj "<lambda>" (X.env.qual ++ "<lambda>") params body scope (cloFrom X.env.cells scope.names []) pm cf ct)
  own : H f = none
  nofr : f ∉ frs X.stack
  nobind : bindArgs (PySem.W.kla_fn "<lambda>" (X.env.qual ++ "<lambda>") params body scope (cloFrom X.env.cells scope.names []) pm (.ref cf) ct) ⟨[], []⟩ = pure []
/-- it is called, in any state that X's calls have come to -/
theorem LamAt.runs {params : Arguments} {body : Expr} {scope : Scope} {f cf : Addr} {pm ct : Value} {tb : TE} {Wh : XK} {k : Nat} {B : Around} {fr : List Env} {L : Hp} {z : Shared} {Q : VK} (T : LamAt X H s params body scope f cf pm ct) (I : Inv X pins σ H s) (S : LamS X.env.scope scope) (hr : Room (k + 1) B) (e0 : Env0 X.prog X.w X.K X.mg X.base B fr z L)
    (un : Un (frs X.stack) [] H L s.heap z.heap) (lim : z.heap.NoLimit) (hc : L cf = some (CodeO cf (X.env.qual ++ "<lambda>"))) (hb : Room k (B.deeper (lamEnv X scope z.heap.objs.size f cf)) → PE (lamCx X B fr z L Wh scope f cf) body tb) (q : tb σ L Q) :
    codeAny (model X.prog X.w) B (.call (.ref f) ⟨[], []⟩) (CR (L2.CX X.prog X.w) fr X.prog X.w L z Q Wh) z := by
  have there := un.keep f _ T.at_ T.own T.nofr (fun m => nomatch (show f ∈ ([] : List Addr) from m))
  obtain ⟨⟨oc, us, tk, h1, h2, h3⟩, _, _⟩ := e0.hok cf _ hc
  refine PySem.W.kla_callFunE hr.depth there rfl S.co S.gen rfl ⟨cf, oc, us, tk, rfl, h1, h2, h3⟩ ?_
  rw [T.nobind]
  refine wpAny_pure (wpAny_newFunctionEnv (fun y hy => (S.own y hy).2) (fun _ hy => absurd hy (by simp)) (fun g hns sb => ⟨lim.fresh _ sb, ?_⟩) S.kind)
  have kp : ∀ p ob, z.heap.get? p = some ob → g.get? p = some ob := fun p ob e => sb.extBut p ob (Nat.ne_of_lt (Heap.lt_size e)) (Heap.get?_push_of_some _ e)
  refine PySem.W.kla_codeExpr (wpAny_mono ((hb (hr.deeper _)).run [] _ _ L Q (lam_start2 (tk := z.toks + ([] : List (Str × Value)).length) I S e0 hr.hd un hns kp) q) (fun v y hy => ?_) fun _ _ hy => hy)
  obtain ⟨r, M, J, rv, hq⟩ := hy
  exact ⟨r, M, J.os, J.bare, J.base, J.hok, rv, hq⟩
/-- the call of what stands in slot i, in the def g that was entered at s by X -/
theorem pe_act2 {CXg : CXT} {Eg : XK} {Ng : List Str} {qg : Str} {sg : Scope} {g f cf : Addr} {cdg pm ct : Value} {params : Arguments} {body : Expr} {scope : Scope} {k i : Nat} {a : Str} {pn : List (Addr × Obj)} {xe : Value → Shared → Prop} {W : WX} {tb : XK → TE} {p1 p2 : Pos} (T : LamAt X H s params body scope f cf pm ct) (I : Inv X pins σ H s) (S : LamS X.env.scope scope)
    (tk : Takes ((cxOf CXg X.prog X.w X.K X.mg X.base Ng qg sg g cdg X.A X.stack s H Eg).tr pn xe) W) (hr : Room (k + 1) (X.A.deeper (envOfC qg sg s.heap.objs.size g cdg)))
    (hbody : ∀ (E : XK) (A : Around) (outer : List Env) (s : Shared) (H : Hp), Room k (A.deeper (lamEnv X scope s.heap.objs.size f cf)) → PE (lamCx X A outer s H E scope f cf) body (tb E))
    (hN : Ng[i]? = some a) (hv : Vis sg a) (hd : (a == ("__debug__" : Str)) = false) (hcd : (a == ("__classdict__" : Str)) = false) :
    PE ((cxOf CXg X.prog X.w X.K X.mg X.base Ng qg sg g cdg X.A X.stack s H Eg).tr pn xe) (.Call (.Name a p1) [] [] p2)
      (fun τ L Q => τ[i]? = some (some (.ref f)) ∧ L cf = some (CodeO cf (X.env.qual ++ "<lambda>")) ∧ tb (fun cls d M => W cls d τ M) σ L Q) := by
  refine ⟨fun pz z τ L Q J ⟨hs, hc, ht⟩ => ?_⟩
  refine wpAny_Call_Name_kw (thn ((pe_var (pos := p1) (i := i) hN hv hd hcd).run pz z τ L (fun v M => v = .ref f ∧ M = L) J ⟨.ref f, hs, rfl, rfl⟩) ?_)
  rintro u y ⟨v, M, J1, ru, rfl, rfl⟩
  cases (show u = Value.ref f from ru)
  have un : Un (frs X.stack) [] H M s.heap y.heap := J1.base
  refine PySem.W.callWith_F0 ⟨_, _, _, _, un.keep f _ T.at_ T.own T.nofr (fun m => nomatch (show f ∈ ([] : List Addr) from m))⟩ (wpAny_call (codeAny_mono (T.runs I S hr J1.env0 un J1.nolimit hc (fun h => hbody _ _ _ y M h) ht) fun r y2 hy => ?_))
  match r, hy with
  | .error er, hy => exact passAt tk τ pz M y er y2 J1 hy
  | .ok (.ret _), hy => exact J1.after hy
  | .ok .next, hy => exact False.elim hy
  | .ok .brk, hy => exact False.elim hy
  | .ok .cont, hy => exact False.elim hy
/-- the def that calls what it got, in slot 0 -/
def GivesTo2 (X : Cx) (Ng : List Str) (x : Str) (sg : Scope) (g : Addr) (cdg : Value) (bg : List Stmt) (a : Str) (q : Str) (TT : (XK → Hp → VK → Prop) → Hp → VK → Prop) : Prop :=
  ∀ (f cf : Addr) (s : Shared) (H : Hp) (Q : VK) (tl : XK → Hp → VK → Prop),
    (∀ (W : WX) (pn : List (Addr × Obj)) (xe : Value → Shared → Prop) (p1 p2 : Pos), Takes ((cxOf C8.CX0 X.prog X.w X.K X.mg X.base Ng x sg g cdg X.A X.stack s H C8.E0).tr pn xe) W →
      PE ((cxOf C8.CX0 X.prog X.w X.K X.mg X.base Ng x sg g cdg X.A X.stack s H C8.E0).tr pn xe) (.Call (.Name a p1) [] [] p2) (fun τ L Q => τ[0]? = some (some (.ref f)) ∧ L cf = some (CodeO cf q) ∧ tl (fun cls d M => W cls d τ M) L Q)) →
    H cf = some (CodeO cf q) → TT tl H Q →
    ∃ t, PSs (cxOf C8.CX0 X.prog X.w X.K X.mg X.base Ng x sg g cdg X.A X.stack s H C8.E0).nox bg t ∧ t { nx := fun _ M => Q .non M, rt := Q } (L2.start Ng [.ref f]) H
/-- x(lambda: body) -/
theorem pe_lamcall2 {T : List (Addr × Str)} {TT : (XK → Hp → VK → Prop) → Hp → VK → Prop} {x a : Str} {g c PT : Addr} {k : Nat} {pg : Arguments} {bg : List Stmt} {sg : Scope} {dV kV doc pm cdv ct oc : Value} {an od : Option Addr} {osl : Array (Option Value)} {Ng : List Str} {params : Arguments} {body : Expr} {scope : Scope} {t : XK → TE} {p lpos pos : Pos} (hg : Gl X x) (hm : X.mg x = some (.ref g)) (hk : PySem.W.keepIn X.K (.ref g) = true)
    (lk : X.K.lookup g = some ⟨oc, od, .func (PySem.W.fnOf x x pg bg sg dV kV doc pm an cdv ct), osl⟩) (hcg : PySem.W.codeIn X.K cdv x = true) (hb : L2.Binds X.K (PySem.W.fnOf x x pg bg sg dV kV doc pm an cdv ct) [a] []) (Sg : FnScope Ng [a] sg) (hNg : Ng[0]? = some a) (hva : Vis sg a) (hG : GivesTo2 X Ng x sg g cdv bg a (X.env.qual ++ "<lambda>") TT)
    (TB : TabB X.base X.mg c PT) (hcode : X.env.code = .ref c) (hmT : (PT, X.env.qual ++ "<lambda>") ∈ T) (hu : ∀ p ∈ T, p.1 = PT → p.2 = X.env.qual ++ "<lambda>") (hr : Room (k + 2) X.A) (S : LamS X.env.scope scope) (hdef : defaultsOf params X.env = ([], []))
    (hbind : ∀ (q : Str) (cl : List (Str × Addr)) (pm cv ctv : Value), bindArgs (PySem.W.kla_fn "<lambda>" q params body scope cl pm cv ctv) ⟨[], []⟩ = pure [])
    (hbody : ∀ (A : Around) (outer : List Env) (s : Shared) (H : Hp) (E : XK) (f cf : Addr), Room k (A.deeper (lamEnv X scope s.heap.objs.size f cf)) → PE (lamCx X A outer s H E scope f cf) body (t E))
    (hdb : (x == ("__debug__" : Str)) = false := by decide) (hd : (a == ("__debug__" : Str)) = false := by decide) (hcd : (a == ("__classdict__" : Str)) = false := by decide) :
    PE X (.Call (.Name x p) [.Lambda params body scope lpos] [] pos) (tLam T TT t) := by
  refine ⟨fun pins s σ H Q I ⟨hT, h⟩ => wpAny_Call_Name_kw (ld_glob I hg hm (PySem.W.callWith_K (h₀ := X.base) I.ok.mod.kin hk ?_ (by rfl) (by rfl)) hdb)⟩
  show wpAny _ _ (spliced ((false, eval (.Lambda params body scope lpos) X.env) :: backTo pos (starEach [] X.env))) _ _ s
  refine Calls.spliced_cons (lam_make2 I TB hcode hmT hu hT hdef (S.has I.ok) fun f cf pf cv M z J eN TM hf nf nfr hco => Calls.spliced_nil ⟨J.kIn, wpAny_call ?_⟩)
  have LA : LamAt X M z params body scope f cf pf cv := ⟨hf, nf, nfr, hbind _ _ _ _ _⟩
  refine codeAny_mono (R := CR C8.CX0 X.stack X.prog X.w M z Q C8.E0) (run_ofS (N := Ng) (ps := [a]) (us := [.ref f]) (vs := [.ref f]) lk hcg Sg hr J.env0 (hb z [.ref f] J.kIn rfl) (.cons rfl .nil) rfl fun room => ?_) fun r y hy => ?_
  · obtain ⟨tt, h1, h2⟩ := hG f cf z M Q (fun E L Q' => t E σ L Q') (fun W pn xe p1 p2 tk => pe_act2 (i := 0) LA J S tk room (fun E A outer s H h => hbody A outer s H E f cf h) hNg hva hd hcd) hco (h M eN TM)
    exact ⟨tt, h1.nox, h2⟩
  · match r, hy with
    | .error _, hy => exact (show False from hy).elim
    | .ok (.ret _), hy => exact J.after hy
    | .ok .next, hy => exact False.elim hy
    | .ok .brk, hy => exact False.elim hy
    | .ok .cont, hy => exact False.elim hy
end
end Tm
namespace Wb
open PySem PySem.Spec PyProof.Rows L2 RZ Sg Tm
/-! ### errors raised -/
def spE (C : Addr) (f w : Str) : Sp := fun vs H Q _ => ∃ a v, vs = [.ref a, v] ∧ H a = some (exo a C none) ∧ ∀ d, H d = none → d ≠ a → Q .non (upd (upd (upd H d (exd d [(f, v)])) a (exo a C (some d))) d (exd d [("word", .str w), (f, v)]))
/-- the error's own dict, as it is told -/
abbrev xdE (w f : Str) (v : V) : HO := .xd [("word", .str w), (f, v)]
theorem mkE {C : Addr} {f w : Str} {te : TE} {σ : L2.St} {H H1 : Hp} {v : V} {Q : XK} (hv : ∀ Q' : VK, Q' v H1 → te σ H Q') (q : ∀ d H', H1 d = none → H' d = some (xdE w f v) → Same H1 H' → Q (.ref C) (some d) H') : tMkO C (spE C f w) [] (tCons te tNil) σ H Q := by
  refine hv _ ⟨by show 1 ≤ 1000; decide, fun a na => ⟨a, v, rfl, upd_same, fun d nd ne => ⟨rfl, d, _, ?_, upd_same, ?_, ?_⟩⟩⟩
  · rw [upd_ne ne.symm]
    exact upd_same
  · rw [upd_ne ne] at nd
    exact nd
  · rw [upd_ne ne] at nd
    refine q d _ nd upd_same fun c o h => ?_
    have ca : c ≠ a := ne_of_none h na
    have cd : c ≠ d := ne_of_none h nd
    rw [upd_ne cd, del_ne ca, upd_ne cd, upd_ne ca, upd_ne cd, upd_ne ca]
    exact h
/-- what a call within may raise is what the def raises -/
theorem passE {X : Cx} {E : XK} {E1 : Value → Shared → Prop} (hs : X.stack = X.env :: X.outer) (hf : X.env.frame = some X.env.locals) (hex : X.ex = [])
    (hx : X.xe = fun e s' => wpAny (model X.prog X.w) X.A (leaving X.env e) (fun _ s'' => L2.CX X.prog X.w X.outer X.H_0 X.s_0 E e s'') E1 s') : Passes (L2.CX X.prog X.w) X E := passes_call (takes_of hs hf hex hx) fun _ _ _ _ h => h
def ErrTo (H : Hp) (E : XK) (C : Addr) (x f : Str) (v : V) : Prop := ∀ d H', H d = none → H' d = some (xdE x f v) → Same H H' → E (.ref C) (some d) H'
structure EDf (P : Program) (w : World) (K : PySem.W.Frag) (mg : Str → Option Value) (base : Heap) (x f : Str) (C fI : Addr) (fd : FuncData) : Prop where
  ok : FnOk P w K mg base CX0 1 fI fd ["self", f] (spE C f x)
  er : ErrC K C fI f
  gl : mg x = some (.ref C)
  bd : Binds K fd ["self", f] []
structure DfX (P : Program) (w : World) (K : PySem.W.Frag) (mg : Str → Option Value) (base : Heap) (k : Nat) (x : Str) (ps : List Str) (sp : Sp) (f : Addr) (fd : FuncData) : Prop where
  ok : FnOk P w K mg base (L2.CX P w) k f fd ps sp
  gl : mg x = some (.ref f)
  kp : PySem.W.keepIn K (.ref f) = true
  bd : Binds K fd ps []
structure MfX (P : Program) (w : World) (K : PySem.W.Frag) (mg : Str → Option Value) (base : Heap) (k : Nat) (C : Addr) (m : Str) (ps : List Str) (sp : Sp) (f : Addr) (fd : FuncData) : Prop where
  ok : FnOk P w K mg base (L2.CX P w) k f fd ps sp
  mt : Meth K C m f
  bd : Binds K fd ps []
structure MfN (P : Program) (w : World) (K : PySem.W.Frag) (mg : Str → Option Value) (base : Heap) (k : Nat) (C : Addr) (m : Str) (ps : List Str) (sp : Sp) (f : Addr) (fd : FuncData) : Prop where
  ok : FnOk P w K mg base CX0 k f fd ps sp
  mt : Meth K C m f
  bd : Binds K fd ps []
section
variable {P : Program} {w : World} {K : PySem.W.Frag} {mg : Str → Option Value} {base : Heap}
abbrev sEBadSize : Stmt := inClass (topS 3) 0
theorem scEBadSize : FnScope ["self", "number"] ["self", "number"] (defScope sEBadSize) := ⟨rfl, rfl, rfl, by decide +kernel, rfl, by decide +kernel, by decide +kernel⟩
theorem ok_eBadSize {f C : Addr} {fd : FuncData} (F : Fun K "__init__" "BadSize.__init__" sEBadSize f fd) (T : ErrC K C f "number") : FnOk P w K mg base CX0 1 f fd ["self", "number"] (spE C "number" "BadSize") := by
  refine F.ok scEBadSize (fun vs H Q E h => ?_) (fun cdv A outer s H vs Q E hr h => ?_)
  · obtain ⟨a, v, rfl, _⟩ := h
    rfl
  · obtain ⟨a, v, rfl, ha, K1⟩ := h
    refine ⟨_, pss_cons (ps_ost (pv 0) (pv 1)) (pss_one (ps_ost (pv 0) pe_str)), _, rfl, _, rfl, a, C, rfl, T.oe, T.nf, .inl ⟨ha, fun d nd ne => ?_⟩⟩
    exact ⟨_, rfl, a, C, rfl, T.oe, T.nw, .inr ⟨d, _, upd_same, by rw [upd_ne ne]; exact upd_same, by show 1 ≤ 900; decide, K1 d nd ne⟩⟩
abbrev sEBadArrow : Stmt := inClass (topS 4) 0
theorem scEBadArrow : FnScope ["self", "at"] ["self", "at"] (defScope sEBadArrow) := ⟨rfl, rfl, rfl, by decide +kernel, rfl, by decide +kernel, by decide +kernel⟩
theorem ok_eBadArrow {f C : Addr} {fd : FuncData} (F : Fun K "__init__" "BadArrow.__init__" sEBadArrow f fd) (T : ErrC K C f "at") : FnOk P w K mg base CX0 1 f fd ["self", "at"] (spE C "at" "BadArrow") := by
  refine F.ok scEBadArrow (fun vs H Q E h => ?_) (fun cdv A outer s H vs Q E hr h => ?_)
  · obtain ⟨a, v, rfl, _⟩ := h
    rfl
  · obtain ⟨a, v, rfl, ha, K1⟩ := h
    refine ⟨_, pss_cons (ps_ost (pv 0) (pv 1)) (pss_one (ps_ost (pv 0) pe_str)), _, rfl, _, rfl, a, C, rfl, T.oe, T.nf, .inl ⟨ha, fun d nd ne => ?_⟩⟩
    exact ⟨_, rfl, a, C, rfl, T.oe, T.nw, .inr ⟨d, _, upd_same, by rw [upd_ne ne]; exact upd_same, by show 1 ≤ 900; decide, K1 d nd ne⟩⟩
abbrev sEBadMark : Stmt := inClass (topS 5) 0
theorem scEBadMark : FnScope ["self", "at"] ["self", "at"] (defScope sEBadMark) := ⟨rfl, rfl, rfl, by decide +kernel, rfl, by decide +kernel, by decide +kernel⟩
theorem ok_eBadMark {f C : Addr} {fd : FuncData} (F : Fun K "__init__" "BadMark.__init__" sEBadMark f fd) (T : ErrC K C f "at") : FnOk P w K mg base CX0 1 f fd ["self", "at"] (spE C "at" "BadMark") := by
  refine F.ok scEBadMark (fun vs H Q E h => ?_) (fun cdv A outer s H vs Q E hr h => ?_)
  · obtain ⟨a, v, rfl, _⟩ := h
    rfl
  · obtain ⟨a, v, rfl, ha, K1⟩ := h
    refine ⟨_, pss_cons (ps_ost (pv 0) (pv 1)) (pss_one (ps_ost (pv 0) pe_str)), _, rfl, _, rfl, a, C, rfl, T.oe, T.nf, .inl ⟨ha, fun d nd ne => ?_⟩⟩
    exact ⟨_, rfl, a, C, rfl, T.oe, T.nw, .inr ⟨d, _, upd_same, by rw [upd_ne ne]; exact upd_same, by show 1 ≤ 900; decide, K1 d nd ne⟩⟩
abbrev sETooMany : Stmt := inClass (topS 7) 0
theorem scETooMany : FnScope ["self", "bound"] ["self", "bound"] (defScope sETooMany) := ⟨rfl, rfl, rfl, by decide +kernel, rfl, by decide +kernel, by decide +kernel⟩
theorem ok_eTooMany {f C : Addr} {fd : FuncData} (F : Fun K "__init__" "TooMany.__init__" sETooMany f fd) (T : ErrC K C f "bound") : FnOk P w K mg base CX0 1 f fd ["self", "bound"] (spE C "bound" "TooMany") := by
  refine F.ok scETooMany (fun vs H Q E h => ?_) (fun cdv A outer s H vs Q E hr h => ?_)
  · obtain ⟨a, v, rfl, _⟩ := h
    rfl
  · obtain ⟨a, v, rfl, ha, K1⟩ := h
    refine ⟨_, pss_cons (ps_ost (pv 0) (pv 1)) (pss_one (ps_ost (pv 0) pe_str)), _, rfl, _, rfl, a, C, rfl, T.oe, T.nf, .inl ⟨ha, fun d nd ne => ?_⟩⟩
    exact ⟨_, rfl, a, C, rfl, T.oe, T.nw, .inr ⟨d, _, upd_same, by rw [upd_ne ne]; exact upd_same, by show 1 ≤ 900; decide, K1 d nd ne⟩⟩
end
end Wb
namespace Wb
open PySem PySem.Spec PyProof.Rows L2 RZ Sg Tm
end Wb
namespace Wb
open PySem PySem.Spec PyProof.Rows L2 RZ Sg Tm
abbrev sMade : Stmt := topS 36
section
variable {P : Program} {w : World} {K : PySem.W.Frag} {mg : Str → Option Value} {base : Heap}
/-! ### a web made of what was drawn -/
def spMade (K : PySem.W.Frag) (C : Addr) : Sp := fun vs H Q _ => ∃ p n a m As Ms, vs = [.ref p] ∧ MW K H p n a m As Ms ∧ ∀ x H' Us Vs, H x = none → (∀ J, (∀ c o, H c = none → H' c = some o → J c = some o) → WebAt C J x n Us Vs) → Us.map (·.2) = As.map (·.2) → Vs.map (·.2) = Ms.map (·.2) → (∀ z ∈ Us, z ∈ As) → (∀ z ∈ Vs, z ∈ Ms) → Same H H' → Q (.ref x) H'
theorem scMa : FnScope ["_law_m"] ["_law_m"] (defScope sMade) := ⟨rfl, rfl, rfl, by decide +kernel, rfl, by decide +kernel, by decide +kernel⟩
theorem ok_made {f C fI ta tm : Addr} {fd dI : FuncData} (F : Fun K "_law_made" "_law_made" sMade f fd) (gW : mg "Web" = some (.ref C)) (M : Mk K C fI) (FI : FunD K "__init__" "Web.__init__" (defArgs sInit) (defBody sInit) (defScope sInit) [] [("arrows", .ref ta), ("marks", .ref tm)] fI dI)
    (oI : FnOk P w K mg base CX0 2 fI dI psI (spInit K C)) : FnOk P w K mg base CX0 4 f fd ["_law_m"] (spMade K C) := by
  obtain ⟨mv2, k2⟩ := kb2 FI (fun z => nomatch z)
  refine F.ok scMa (fun vs H Q E h => ?_) (fun cdv A outer s H vs Q E hr h => ?_)
  · obtain ⟨p, n, a, m, As, Ms, rfl, _⟩ := h
    rfl
  · obtain ⟨p, n, a, m, As, Ms, rfl, W, K1⟩ := h
    refine ⟨_, pss_one (ps_ret (pe_makeK M oI hr (by rfl) gW k2 pass0 (pa_cons (pe_ix ix_tup (pv 0) pe_int (fun _ _ => rfl)) pa_nil) (pk_cons (pe_ix ix_tup (pv 0) pe_int (fun _ _ => rfl)) (pk_cons (pe_ix ix_tup (pv 0) pe_int (fun _ _ => rfl)) pk_nil)))), ?_⟩
    have n0 := W.n0
    have n1 := W.n1
    have la := W.la
    have lm := W.lm
    refine ret_of ⟨_, rfl, p, _, 0, .int n, rfl, rfl, SqT.of W.tp, atI_nat (j := 0) rfl, _, rfl, p, _, 1, .ref a, rfl, rfl, SqT.of W.tp, atI_nat (j := 1) rfl, _, rfl, p, _, 2, .ref m, rfl, rfl, SqT.of W.tp, atI_nat (j := 2) rfl, rfl, rfl, fun x dx nx ndx ne => ?_⟩
    refine mk_use nx ndx ne n0 (by omega) ⟨.inl (SqL.of W.ha), W.qa⟩ W.ka (by omega) ⟨.inl (SqL.of W.hm), W.qm⟩ W.km (by omega) fun J' Us Vs Wx sU sV s45 => ?_
    exact K1 x J' Us Vs nx Wx (srt_eq sU (fun k => Iff.rfl) (fun z hz => (W.ka z hz).tie (by omega)) (fun z hz => (W.ka z hz).tie (by omega)) W.na W.ra) (srt_eq sV (fun k => Iff.rfl) (fun z hz => (W.km z hz).tie (by omega)) (fun z hz => (W.km z hz).tie (by omega)) W.nm W.rm) sU.of sV.of s45
end
end Wb
namespace Tm
open PySem PySem.Spec PyProof.Rows L2
/-! ### x *= y -/
def ipM : TIp := fun x y H Q => ∃ i j, x = .int i ∧ y = .int j ∧ (-(2 ^ 64) < j ∧ j < 2 ^ 64) ∧ Q (.int (i * j)) H
theorem ip_mul {X : Cx} : PIp X .Mult ipM := by
  rintro pins s σ H x y v u Q I r1 r2 ⟨i, j, rfl, rfl, hj, q⟩
  obtain ⟨t, rfl⟩ := r1
  obtain ⟨t', rfl⟩ := r2
  exact imul_int ⟨.int _, H, I.tok _, ⟨_, rfl⟩, q⟩ (CMul.ok (.inr hj))
/-! ### a dict comprehension, by a walk -/
theorem dc_it {J : It} {n : Nat} {G : Hp → Prop} {Y : Nat → Hp → V → Hp → Prop} (wk : Walk J n G Y) {g : TG} {tt : TT} {tk tv : TE} {vs : List Nat} {σ : L2.St} {H1 : Hp} {D : Addr} {Qd : Hp → Prop} (Pv : Nat → Hp → Prop) (h0 : Pv 0 (upd H1 D (.dK []))) (hG : ∀ i H, i ≤ n → Pv i H → G H)
    (hs : ∀ i x H H', i < n → Pv i H → Y i H x H' → g x (wipe σ vs) H' fun σ2 H2 => wipe σ2 vs = wipe σ vs ∧ tt σ2 H2 fun b H3 =>
      if b = true then tk σ2 H3 fun y H4 => tv σ2 H4 fun z H5 => ∃ kvs k, y = kV k ∧ H5 D = some (.dK kvs) ∧ kvs.length < sizeLine ∧ Pv (i + 1) (upd H5 D (.dK (putK kvs k z))) else Pv (i + 1) H3) (hd : ∀ H, Pv n H → Qd H) :
    ∃ W : Nat → Nat → Hp → Prop, (∃ m, W 0 m (upd H1 D (.dK []))) ∧ ∀ i m H, W i m H →
      (J.stop i H ∧ Qd H) ∨ (J.go i H ∧ ∃ Nx : Hp → Prop, (∀ H', Nx H' → ∃ m', m' < m ∧ W (i + 1) m' H') ∧ ∀ x H', J.yld i H x H' → g x (wipe σ vs) H' fun σ2 H2 => wipe σ2 vs = wipe σ vs ∧ tt σ2 H2 fun b H3 =>
        if b = true then tk σ2 H3 fun y H4 => tv σ2 H4 fun z H5 => ∃ kvs k, y = kV k ∧ H5 D = some (.dK kvs) ∧ kvs.length < sizeLine ∧ Nx (upd H5 D (.dK (putK kvs k z))) else Nx H3) := by
  refine ⟨fun i m L => m = n - i ∧ i ≤ n ∧ Pv i L, ⟨n, by simp, Nat.zero_le _, h0⟩, ?_⟩
  rintro i m L ⟨rfl, hi, hp⟩
  have hg := hG i L hi hp
  rcases Nat.lt_or_ge i n with hlt | hge
  · exact .inr ⟨wk.goes i L hlt hg, Pv (i + 1), fun L' hp' => ⟨n - (i + 1), by omega, rfl, hlt, hp'⟩, fun x L' hy => hs i x L L' hlt hp (wk.yields i L x L' hlt hg hy)⟩
  · obtain rfl : i = n := by omega
    exact .inl ⟨wk.stops L hg, hd L hp⟩
end Tm
namespace Wb
open PySem PySem.Spec PyProof.Rows L2 RZ Sg Tm
/-- a web and its ties, as they stand -/
structure WX (K : PySem.W.Frag) (C : Addr) (H : Hp) (x : Addr) (n : Int) (As Ms : List TK) : Prop where
  w : WebAt C H x n As Ms
  qa : ∀ z ∈ As, SqT K H z.1 (z.2.map kV)
  qm : ∀ z ∈ Ms, SqT K H z.1 (z.2.map kV)
  ka : ∀ z ∈ As, AK n z.2
  km : ∀ z ∈ Ms, MK n z.2
  la : As.length ≤ 300
  lm : Ms.length ≤ 300
  n0 : 0 ≤ n
  n1 : n ≤ 81
theorem WX.same {K : PySem.W.Frag} {C : Addr} {H H' : Hp} {x : Addr} {n : Int} {As Ms : List TK} (s : Same H H') (h : WX K C H x n As Ms) : WX K C H' x n As Ms :=
  { h with w := h.w.same s, qa := fun z hz => same_tup s (h.qa z hz), qm := fun z hz => same_tup s (h.qm z hz) }
abbrev iVs (vs : List Int) : List V := vs.map V.int
/-- a list or tuple of whole numbers -/
def IS (K : PySem.W.Frag) (H : Hp) (l : Addr) (vs : List Int) : Prop := SqL K H l (iVs vs) ∨ SqT K H l (iVs vs)
theorem IS.same {K : PySem.W.Frag} {H H' : Hp} {l : Addr} {vs : List Int} (s : Same H H') (h : IS K H l vs) : IS K H' l vs := h.imp (fun z => s.seq z) fun z => same_tup s z
def img (vs : List Int) (i : Int) : Int := vs.getD i.toNat 0
theorem img_at {vs : List Int} {i : Int} (h0 : 0 ≤ i) (h1 : i < vs.length) : atI (iVs vs) i = some (.int (img vs i)) := by
  have hj : i.toNat < vs.length := by omega
  refine at_of (j := i.toNat) (by omega) ?_
  rw [List.getElem?_map, List.getElem?_eq_getElem hj]
  unfold img
  rw [List.getD_eq_getElem?_getD, List.getElem?_eq_getElem hj]
  rfl
theorem is_ix {K : PySem.W.Frag} {H : Hp} {l : Addr} {vs : List Int} {i : Int} {Q : VK} (h : IS K H l vs) (h0 : 0 ≤ i) (h1 : i < vs.length) (q : Q (.int (img vs i)) H) : rIx K (.ref l) (.int i) H Q :=
  h.elim (fun z => .inl ⟨l, _, i, _, rfl, rfl, z, img_at h0 h1, q⟩) fun z => .inr (.inl ⟨l, _, i, _, rfl, rfl, z, img_at h0 h1, q⟩)
theorem flat_sc {v : V} (h : scV v = true) : flatV v = true := by
  cases v <;> first | rfl | cases h
theorem sc_kV (k : Key) : scV (kV k) = true := by cases k <;> rfl
theorem gat_sc (As : List TK) (k : List Key) : ∀ v ∈ gat As k, scV v = true := fun v hv => by
  obtain ⟨q, _, rfl⟩ := List.mem_map.mp hv
  exact sc_kV _
theorem all_flat {xs : List V} (h : ∀ v ∈ xs, scV v = true) : xs.all flatV = true := List.all_eq_true.mpr fun v hv => flat_sc (h v hv)
def arrOk (As2 : List TK) (vs : List Int) : List Key → Bool
  | [.inr c, .inl s, .inl t] => inV (.int (img vs t)) (gat As2 [.inr c, .inl (img vs s)])
  | _ => false
theorem AK.r3k {n : Int} {k : List Key} (h : AK n k) : ∃ (z : Str) (x y : Int), k = [.inr z, .inl x, .inl y] ∧ 0 ≤ x ∧ x < n ∧ 0 ≤ y ∧ y < n := by
  obtain ⟨c, x, y, e, _, h⟩ := h
  exact ⟨_, x, y, e, h⟩
theorem MK.r2k {n : Int} {k : List Key} (h : MK n k) : ∃ (z : Str) (x : Int), k = [.inr z, .inl x] ∧ 0 ≤ x ∧ x < n := by
  obtain ⟨c, x, e, _, h⟩ := h
  exact ⟨_, x, e, h⟩
theorem all_snoc {α : Type} {f : α → Bool} {L : List α} {i : Nat} (hi : i < L.length) (h : ∀ q ∈ L.take i, f q = true) (hb : f L[i] = true) : ∀ q ∈ L.take (i + 1), f q = true := fun q hq => by
  rw [List.take_add_one, List.getElem?_eq_getElem hi] at hq
  rcases List.mem_append.mp hq with hq | hq
  · exact h q hq
  · rw [List.mem_singleton.mp hq]
    exact hb
theorem all_not {α : Type} {f : α → Bool} {L : List α} {i : Nat} (hi : i < L.length) (hb : f L[i] = false) : L.all f = false := by
  rw [List.all_eq_false]
  exact ⟨L[i], List.getElem_mem hi, by rw [hb]; decide⟩
section
variable {P : Program} {w : World} {K : PySem.W.Frag} {mg : Str → Option Value} {base : Heap}
theorem img_in {is : List Int} {n : Int} {i : Int} (h : ∀ v ∈ is, 0 ≤ v ∧ v < n) (h0 : 0 ≤ i) (h1 : i < is.length) : 0 ≤ img is i ∧ img is i < n := by
  have hj : i.toNat < is.length := by omega
  unfold img
  rw [List.getD_eq_getElem?_getD, List.getElem?_eq_getElem hj]
  exact h _ (List.getElem_mem hj)
/-! ### how many lists -/
def spWays (K : PySem.W.Frag) (C : Addr) : Sp := fun vs H Q _ => ∃ x1 n1 As1 Ms1 x2 n2 As2 Ms2, vs = [.ref x1, .ref x2] ∧ WX K C H x1 n1 As1 Ms1 ∧ WX K C H x2 n2 As2 Ms2 ∧ Q (.int (n2 ^ n1.toNat)) H
end
end Wb
namespace Tm
open PySem PySem.Spec PyProof.Rows L2
/-- a def of the text whose code object is known -/
structure FunC (K : PySem.W.Frag) (x qual : Str) (st : Stmt) (f : Addr) (fd : FuncData) (c : Addr) : Prop where
  ex : ∃ (oc : Value) (od : Option Addr) (kV doc pm : Value) (an : Option Addr) (ct : Value) (osl : Array (Option Value)),
    fd = PySem.W.fnOf x qual (defArgs st) (defBody st) (defScope st) .none kV doc pm an (.ref c) ct ∧ K.lookup f = some ⟨oc, od, .func fd, osl⟩ ∧ PySem.W.codeIn K (.ref c) qual = true
  kp : PySem.W.keepIn K (.ref f) = true
theorem FunC.ok {P : Program} {w : World} {K : PySem.W.Frag} {mg : Str → Option Value} {base : Heap} {x qual : Str} {st : Stmt} {f c : Addr} {fd : FuncData} {N ps : List Str} {k : Nat} {sp : Sp} (F : FunC K x qual st f fd c) (S : FnScope N ps (defScope st)) (len : ∀ vs H Q E, sp vs H Q E → vs.length = ps.length)
    (hbody : ∀ (A : Around) (outer : List Env) (s : Shared) (H : Hp) (vs : List V) (Q : VK) (E : XK), Room k (A.deeper (envOfC qual (defScope st) s.heap.objs.size f (.ref c))) → sp vs H Q E →
      ∃ t, PSs (cxOf CX0 P w K mg base N qual (defScope st) f (.ref c) A outer s H E).nox (defBody st) t ∧ t { nx := fun _ H' => Q .non H', rt := Q } (start N vs) H) : FnOk P w K mg base CX0 (k + 1) f fd ps sp := by
  obtain ⟨oc, od, kV, doc, pm, an, ct, osl, rfl, lk, hcd⟩ := F.ex
  exact fn_of lk hcd S len fun A outer s H vs Q E hr hsp => by
    obtain ⟨t, h1, h2⟩ := hbody A outer s H vs Q E hr hsp
    exact ⟨t, h1.nox, h2⟩
theorem funC_mk {K : PySem.W.Frag} {x qual : Str} {st : Stmt} {f c : Addr} {oc : Value} {od an : Option Addr} {osl : Array (Option Value)} {kV doc pm ct : Value} (l : K.lookup f = some ⟨oc, od, .func (PySem.W.fnOf x qual (defArgs st) (defBody st) (defScope st) .none kV doc pm an (.ref c) ct), osl⟩)
    (h : PySem.W.codeIn K (.ref c) qual = true) (k : PySem.W.keepIn K (.ref f) = true) : FunC K x qual st f (PySem.W.fnOf x qual (defArgs st) (defBody st) (defScope st) .none kV doc pm an (.ref c) ct) c := ⟨⟨oc, od, kV, doc, pm, an, ct, osl, rfl, l, h⟩, k⟩
theorem extN_tup {K : PySem.W.Frag} {H H' : Hp} {p : Addr} {xs : List V} (e : LamX.ExtN H H') (h : SqT K H p xs) : SqT K H' p xs := by
  rcases h with (h | ⟨o, h⟩) | h
  · exact .inl (.inl (e _ _ h (fun _ z => nomatch z)))
  · exact .inl (.inr ⟨o, e _ _ h (fun _ z => nomatch z)⟩)
  · exact .inr h
theorem extN_lst {K : PySem.W.Frag} {H H' : Hp} {p : Addr} {xs : List V} (e : LamX.ExtN H H') (h : SqL K H p xs) : SqL K H' p xs := by
  rcases h with (h | ⟨o, h⟩) | h
  · exact .inl (.inl (e _ _ h (fun _ z => nomatch z)))
  · exact .inl (.inr ⟨o, e _ _ h (fun _ z => nomatch z)⟩)
  · exact .inr h
theorem tabs_but {T : List (Addr × Str)} {H H' : Hp} {b : Addr} {xs : List V} (hb : H b = some (.lst xs)) (x : ∀ c o, c ≠ b → H c = some o → H' c = some o) (t : LamX.Tabs T H) : LamX.Tabs T H' := fun p hp => by
  obtain ⟨ps, h1, h2, h3⟩ := t p hp
  refine ⟨ps, x _ _ (ne_of h1 hb (fun z => nomatch z)) h1, h2, fun pos cv hc => ?_⟩
  obtain ⟨c, e1, e2⟩ := h3 pos cv hc
  exact ⟨c, e1, x _ _ (ne_of e2 hb (fun z => by unfold LamX.CodeO at z; cases z)) e2⟩
theorem op_eqDK {X : Cx} {K : PySem.W.Frag} (hK : X.K = K) (hu : X.A.units + 64 < cLine) : OpR X (compareOp .Eq) (rEqD K) := hK ▸ op_eqD hu
theorem op_neDK {X : Cx} {K : PySem.W.Frag} (hK : X.K = K) (hu : X.A.units + 64 < cLine) : OpR X (compareOp .NotEq) (rNeD K) := hK ▸ op_neD hu
end Tm
namespace Wb
open PySem PySem.Spec PyProof.Rows L2 RZ Sg Tm
theorem bx_extN {H H' : Hp} {b q : Addr} (s : LamX.ExtN H H') (B : Bx H b q) : Bx H' b q := by
  obtain ⟨ns, i, r, k, hb, hq, h⟩ := B
  exact ⟨ns, i, r, k, s _ _ hb (fun _ z => nomatch z), s _ _ hq (fun _ z => nomatch z), h⟩
theorem MW.extN {K : PySem.W.Frag} {H H' : Hp} {p a m : Addr} {n : Int} {As Ms : List TK} (s : LamX.ExtN H H') (h : MW K H p n a m As Ms) : MW K H' p n a m As Ms :=
  { h with tp := s _ _ h.tp (fun _ z => nomatch z), ha := s _ _ h.ha (fun _ z => nomatch z), hm := s _ _ h.hm (fun _ z => nomatch z), qa := fun z hz => extN_tup s (h.qa z hz), qm := fun z hz => extN_tup s (h.qm z hz) }
theorem GX.extN {H H' : Hp} {d : Addr} {f : List Key → List V} (s : LamX.ExtN H H') (g : GX H d f) : GX H' d f := by
  obtain ⟨kvs, e, h1, h2⟩ := g
  refine ⟨kvs, s _ _ e (fun _ z => nomatch z), h1, fun k v hv => ?_⟩
  obtain ⟨q, eq, hq⟩ := h2 k v hv
  exact ⟨q, eq, s _ _ hq (fun _ z => nomatch z)⟩
theorem WebAt.extN {C : Addr} {H H' : Hp} {x : Addr} {n : Int} {As Ms : List TK} (s : LamX.ExtN H H') (w : WebAt C H x n As Ms) : WebAt C H' x n As Ms := by
  obtain ⟨dx, pl, ar, mr, ow, bw, h1, h2, h3, h4, h5, Bs, h6, h7⟩ := w.ex
  exact ⟨dx, pl, ar, mr, ow, bw, s _ _ h1 (fun _ z => nomatch z), s _ _ h2 (fun _ z => nomatch z), s _ _ h3 (fun _ z => nomatch z), s _ _ h4 (fun _ z => nomatch z), h5.extN s, Bs, h6, h7.extN s⟩
theorem tabs_xt {T : List (Addr × Str)} {H H' : Hp} {b q : Addr} (B : Bx H b q) (x : Xt b H H') (t : LamX.Tabs T H) : LamX.Tabs T H' := by
  obtain ⟨xs, hb⟩ := bx_at B
  exact tabs_but hb x t
end Wb
/-! Values as data: what a reading gives, without the heap. -/
namespace Dv
open PySem PySem.Spec PyProof.Rows L2
abbrev Ks := List Key
inductive D where
  | non | bl (b : Bool) | int (i : Int) | str (x : Str) | lst (l : List D) | tup (l : List D) | web (n : Int) (As Ms : List Ks) | dk (kvs : List (Key × D)) | dt (kvs : List (Ks × D)) | box
abbrev Env := List (Option D)
def Sub (H H' : Hp) : Prop := ∀ a o, H a = some o → H' a = some o
theorem Sub.refl (H : Hp) : Sub H H := fun _ _ h => h
theorem Sub.trans {H H1 H2 : Hp} (a : Sub H H1) (b : Sub H1 H2) : Sub H H2 := fun x o h => b x o (a x o h)
theorem Sub.free {H H' : Hp} {a : Addr} (s : Sub H H') (h : H' a = none) : H a = none := by
  cases e : H a with
  | none => rfl
  | some o => rw [s a o e] at h; cases h
theorem sub_new {H : Hp} {p : Addr} {o : HO} (h : H p = none) : Sub H (upd H p o) := fun a u e => by
  rw [upd_ne (ne_of_none e h)]
  exact e
theorem sub_tup {K : PySem.W.Frag} {H H' : Hp} {a : Addr} {xs : List V} (s : Sub H H') (h : SqT K H a xs) : SqT K H' a xs := by
  rcases h with (h | ⟨o, h⟩) | h
  · exact .inl (.inl (s _ _ h))
  · exact .inl (.inr ⟨o, s _ _ h⟩)
  · exact .inr h
/-- the program's webs: how one is told from the heap -/
structure Base where
  K : PySem.W.Frag
  C : Addr
  T : List (Addr × Str)
  cls : Str → Addr
  W : Hp → Addr → Int → List Ks → List Ks → Prop
  mono : ∀ {H H' x n As Ms}, Sub H H' → W H x n As Ms → W H' x n As Ms
  ins : ∀ {H x n As Ms}, W H x n As Ms → ∃ dx fs, H x = some (.ins C dx fs) ∧ ∀ m : Str, m ∉ (["places", "arrow_rows", "mark_rows", "onward", "backward"] : List Str) → fs.lookup m = none
/-- the drawing box (its address, the script's); the tables of code that lambdas are taken from -/
structure Bo (S : Base) where
  bq : Option (Addr × Addr)
def plainO : HO → Bool
  | .lst _ => true
  | .dK _ => true
  | .dT _ => true
  | _ => false
theorem plainO.nt {o : HO} (h : plainO o = true) : ∀ ps, o ≠ .tbl ps := fun ps z => by subst z; cases h
theorem tabs_upd {T : List (Addr × Str)} {H : Hp} {a : Addr} {u : HO} (t : LamX.Tabs T H) (h : ∀ o, H a = some o → plainO o = true) : LamX.Tabs T (upd H a u) := fun p hp => by
  obtain ⟨ps, h1, h2, h3⟩ := t p hp
  have e : ∀ {c o}, H c = some o → plainO o = false → c ≠ a := fun {c o} e n z => by
    subst z
    rw [h o e] at n; cases n
  refine ⟨ps, by rw [upd_ne (e h1 rfl)]; exact h1, h2, fun pos cv hc => ?_⟩
  obtain ⟨c, e1, e2⟩ := h3 pos cv hc
  exact ⟨c, e1, by rw [upd_ne (e e2 rfl)]; exact e2⟩
theorem tabs_sub {T : List (Addr × Str)} {H H' : Hp} (s : ∀ a o, H a = some o → H' a = some o) (t : LamX.Tabs T H) : LamX.Tabs T H' := fun p hp => (t p hp).ext s
/-- the box is well: the script, how far it is read, two numbers -/
def BxAt (H : Hp) (b q : Addr) : Prop := ∃ (ns : List Int) (i r k : Int), H b = some (.lst [.ref q, .int i, .int r, .int k]) ∧ H q = some (.lst (ns.map V.int)) ∧ 0 ≤ i ∧ 0 ≤ r ∧ 0 ≤ k ∧ k < 2147483563
variable {S : Base} {B : Bo S}
mutual
inductive Rp (S : Base) (B : Bo S) (G : Hp) : V → D → Prop
  | non : Rp S B G .non .non
  | bl (b : Bool) : Rp S B G (.bl b) (.bl b)
  | int (i : Int) : Rp S B G (.int i) (.int i)
  | str (x : Str) : Rp S B G (.str x) (.str x)
  | lst {a : Addr} {xs : List V} {ds : List D} : G a = some (.lst xs) → RpA S B G xs ds → Rp S B G (.ref a) (.lst ds)
  | tup {a : Addr} {xs : List V} {ds : List D} : SqT S.K G a xs → RpA S B G xs ds → Rp S B G (.ref a) (.tup ds)
  | web {a : Addr} {n : Int} {As Ms : List Ks} : S.W G a n As Ms → Rp S B G (.ref a) (.web n As Ms)
  | dk {a : Addr} {kvs : List (Key × V)} {es : List (Key × D)} : G a = some (.dK kvs) → kvs.map (·.1) = es.map (·.1) → RpA S B G (kvs.map (·.2)) (es.map (·.2)) → Rp S B G (.ref a) (.dk es)
  | dt {a : Addr} {kvs : List (Ks × V)} {es : List (Ks × D)} : G a = some (.dT kvs) → kvs.map (·.1) = es.map (·.1) → RpA S B G (kvs.map (·.2)) (es.map (·.2)) → Rp S B G (.ref a) (.dt es)
  | box {b q : Addr} : B.bq = some (b, q) → Rp S B G (.ref b) .box
inductive RpA (S : Base) (B : Bo S) (G : Hp) : List V → List D → Prop
  | nil : RpA S B G [] []
  | cons {v : V} {vs : List V} {d : D} {ds : List D} : Rp S B G v d → RpA S B G vs ds → RpA S B G (v :: vs) (d :: ds)
end
mutual
theorem Rp.mono {G G' : Hp} (s : Sub G G') : ∀ {v : V} {d : D}, Rp S B G v d → Rp S B G' v d
  | _, _, .non => .non
  | _, _, .bl b => .bl b
  | _, _, .int i => .int i
  | _, _, .str x => .str x
  | _, _, .lst h r => .lst (s _ _ h) (RpA.mono s r)
  | _, _, .tup h r => .tup (sub_tup s h) (RpA.mono s r)
  | _, _, .web h => .web (S.mono s h)
  | _, _, .dk h e r => .dk (s _ _ h) e (RpA.mono s r)
  | _, _, .dt h e r => .dt (s _ _ h) e (RpA.mono s r)
  | _, _, .box h => .box h
theorem RpA.mono {G G' : Hp} (s : Sub G G') : ∀ {vs : List V} {ds : List D}, RpA S B G vs ds → RpA S B G' vs ds
  | _, _, .nil => .nil
  | _, _, .cons h r => .cons (Rp.mono s h) (RpA.mono s r)
end
theorem RpA.length {G : Hp} : ∀ {vs : List V} {ds : List D}, RpA S B G vs ds → vs.length = ds.length
  | _, _, .nil => rfl
  | _, _, .cons _ r => congrArg (· + 1) (RpA.length r)
theorem RpA.get {G : Hp} : ∀ {vs : List V} {ds : List D}, RpA S B G vs ds → ∀ {i : Nat} {d : D}, ds[i]? = some d → ∃ v, vs[i]? = some v ∧ Rp S B G v d
  | _, _, .nil, i, d, h => by simp at h
  | _, _, .cons h r, 0, d, e => by simp at e; subst e; exact ⟨_, rfl, h⟩
  | _, _, .cons h r, i + 1, d, e => by
    obtain ⟨v, h1, h2⟩ := RpA.get r (i := i) (d := d) (by simpa using e)
    exact ⟨v, by simpa using h1, h2⟩
theorem RpA.getV {G : Hp} {vs : List V} {ds : List D} (r : RpA S B G vs ds) {i : Nat} {v : V} (h : vs[i]? = some v) : ∃ d, ds[i]? = some d ∧ Rp S B G v d := by
  have hl := r.length
  have hi := (List.getElem?_eq_some_iff.mp h).1
  obtain ⟨u, h1, h2⟩ := r.get (i := i) (d := ds[i]'(by omega)) (List.getElem?_eq_getElem _)
  rw [h] at h1
  cases h1
  exact ⟨_, List.getElem?_eq_getElem _, h2⟩
theorem RpA.append {G : Hp} : ∀ {vs us : List V} {ds es : List D}, RpA S B G vs ds → RpA S B G us es → RpA S B G (vs ++ us) (ds ++ es)
  | _, _, _, _, .nil, s => s
  | _, _, _, _, .cons h r, s => .cons h (RpA.append r s)
theorem RpA.take {G : Hp} : ∀ {vs : List V} {ds : List D} (n : Nat), RpA S B G vs ds → RpA S B G (vs.take n) (ds.take n)
  | _, _, 0, _ => .nil
  | _, _, _ + 1, .nil => .nil
  | _, _, n + 1, .cons h r => .cons h (RpA.take n r)
theorem RpA.drop {G : Hp} : ∀ {vs : List V} {ds : List D} (n : Nat), RpA S B G vs ds → RpA S B G (vs.drop n) (ds.drop n)
  | _, _, 0, r => r
  | _, _, _ + 1, .nil => .nil
  | _, _, n + 1, .cons _ r => RpA.drop n r
theorem RpA.set {G : Hp} {v : V} {d : D} (h : Rp S B G v d) : ∀ {vs : List V} {ds : List D} (n : Nat), RpA S B G vs ds → RpA S B G (vs.set n v) (ds.set n d)
  | _, _, _, .nil => .nil
  | _, _, 0, .cons _ r => .cons h r
  | _, _, n + 1, .cons q r => .cons q (RpA.set h n r)
theorem RpA.ints {G : Hp} : ∀ is : List Int, RpA S B G (is.map V.int) (is.map D.int)
  | [] => .nil
  | i :: is => .cons (.int i) (RpA.ints is)
/-! ### the state -/
/-- H: what is tracked; G: the part of it that stays as it is -/
structure Ok {S : Base} (B : Bo S) (H G : Hp) : Prop where
  sub : Sub G H
  nm : ∀ b q, B.bq = some (b, q) → G b = none
  bx : ∀ b q, B.bq = some (b, q) → BxAt H b q
  tb : LamX.Tabs S.T H
  nt : ∀ a ps, G a ≠ some (.tbl ps)
/-- nothing stands there that is known to stay (at most a table) -/
def FrA (H : Hp) (a : Addr) : Prop := ∀ o, H a = some o → ∃ ps, o = .tbl ps
theorem FrA.of {H : Hp} {a : Addr} (h : H a = none) : FrA H a := fun o e => by rw [h] at e; cases e
theorem FrA.ne {H : Hp} {a b : Addr} {o : HO} (h : FrA H a) (hb : H b = some o) (n : ∀ ps, o ≠ .tbl ps) : b ≠ a := fun z => by
  subst z
  obtain ⟨ps, e⟩ := h o hb
  exact n ps e
theorem FrA.sub {H H' : Hp} {a : Addr} (s : Sub H H') (h : FrA H' a) : FrA H a := fun o e => h o (s a o e)
theorem FrA.upd {H : Hp} {a p : Addr} {o : HO} (hp : FrA H p) (h : FrA (L2.upd H p o) a) : FrA H a := by
  by_cases z : a = p
  · subst z; exact hp
  · exact fun u e => h u (by rw [upd_ne z]; exact e)
structure Ch {S : Base} (B : Bo S) (H G H' G' : Hp) : Prop where
  ch : ∀ a o, (∀ q, B.bq ≠ some (a, q)) → (∀ ps, o ≠ .tbl ps) → H a = some o → H' a = some o
  fr : ∀ a, FrA H' a → FrA H a
  ext : Sub G G'
  new : ∀ a o, G' a = some o → G a = some o ∨ FrA H a
theorem Ch.refl {H G : Hp} : Ch B H G H G := ⟨fun _ _ _ _ h => h, fun _ h => h, Sub.refl G, fun _ _ h => .inl h⟩
theorem Ch.trans {H G H1 G1 H2 G2 : Hp} (a : Ch B H G H1 G1) (b : Ch B H1 G1 H2 G2) : Ch B H G H2 G2 :=
  ⟨fun x o n z h => b.ch x o n z (a.ch x o n z h), fun x h => a.fr x (b.fr x h), a.ext.trans b.ext, fun x o h => (b.new x o h).elim (a.new x o) fun z => .inr (a.fr x z)⟩
theorem BxAt.sub {H H' : Hp} {b q : Addr} (s : Sub H H') (h : BxAt H b q) : BxAt H' b q := by
  obtain ⟨ns, i, r, k, h1, h2, h3, h4⟩ := h
  exact ⟨ns, i, r, k, s _ _ h1, s _ _ h2, h3, h4⟩
theorem BxAt.some {H : Hp} {b q : Addr} (h : BxAt H b q) : ∃ o, H b = some o := by
  obtain ⟨ns, i, r, k, h1, _⟩ := h
  exact ⟨_, h1⟩
theorem Ok.ne {H G : Hp} (k : Ok B H G) {p b q : Addr} (e : B.bq = some (b, q)) (h : FrA H p) : b ≠ p := by
  obtain ⟨ns, i, r, kk, ho, _⟩ := k.bx b q e
  exact h.ne ho (fun _ z => nomatch z)
/-- a new object that stays as it is -/
theorem Ok.put {H G : Hp} (k : Ok B H G) {p : Addr} (h : H p = none) (o : HO) (nt : ∀ ps, o ≠ .tbl ps) : Ok B (upd H p o) (upd G p o) ∧ Ch B H G (upd H p o) (upd G p o) := by
  refine ⟨⟨fun a u e => ?_, fun b q e => ?_, fun b q e => (k.bx b q e).sub (sub_new h), tabs_sub (sub_new h) k.tb, fun a ps e => ?_⟩, ⟨fun a u _ _ e => sub_new h a u e, fun a e => FrA.upd (FrA.of h) e, sub_new (k.sub.free h), fun a u e => ?_⟩⟩
  · by_cases z : a = p
    · subst z; rw [upd_same] at e ⊢; exact e
    · rw [upd_ne z] at e ⊢; exact k.sub a u e
  · rw [upd_ne (k.ne e (FrA.of h))]
    exact k.nm b q e
  · by_cases z : a = p
    · subst z; rw [upd_same] at e; exact nt ps (Option.some.inj e)
    · rw [upd_ne z] at e; exact k.nt a ps e
  · by_cases z : a = p
    · subst z; exact .inr (FrA.of h)
    · rw [upd_ne z] at e; exact .inl e
/-- a new object that may be changed -/
theorem Ok.lay {H G : Hp} (k : Ok B H G) {p : Addr} (h : H p = none) (o : HO) : Ok B (upd H p o) G ∧ Ch B H G (upd H p o) G :=
  ⟨⟨k.sub.trans (sub_new h), k.nm, fun b q e => (k.bx b q e).sub (sub_new h), tabs_sub (sub_new h) k.tb, k.nt⟩, ⟨fun a u _ _ e => sub_new h a u e, fun a e => FrA.upd (FrA.of h) e, Sub.refl G, fun _ _ e => .inl e⟩⟩
structure Er (S : Base) (B : Bo S) (G : Hp) (σ : L2.St) (ρ : Env) : Prop where
  len : ρ.length = σ.length
  get : ∀ (i : Nat) (d : D), ρ[i]? = some (some d) → ∃ v, σ[i]? = some (some v) ∧ Rp S B G v d
theorem Er.mono {G G' : Hp} {σ : L2.St} {ρ : Env} (s : Sub G G') (h : Er S B G σ ρ) : Er S B G' σ ρ := ⟨h.len, fun i d e => by
  obtain ⟨v, h1, h2⟩ := h.get i d e
  exact ⟨v, h1, h2.mono s⟩⟩
/-! ### what may come out -/
structure M (α : Type) where
  run : (α → Prop) → Prop
  mono : ∀ {P Q : α → Prop}, (∀ a, P a → Q a) → run P → run Q
namespace M
variable {α β : Type}
def ret (a : α) : M α := ⟨fun Q => Q a, fun h p => h a p⟩
def fail : M α := ⟨fun _ => False, fun _ p => p⟩
def bnd (m : M α) (f : α → M β) : M β := ⟨fun Q => m.run fun a => (f a).run Q, fun h p => m.mono (fun a q => (f a).mono h q) p⟩
def req (p : Prop) : M Unit := ⟨fun Q => p ∧ Q (), fun h q => ⟨q.1, h _ q.2⟩⟩
def all (p : α → Prop) : M α := ⟨fun Q => ∀ a, p a → Q a, fun h q a pa => h a (q a pa)⟩
def opt : Option α → M α
  | some a => ret a
  | none => fail
def mapL (f : α → M β) : List α → M (List β)
  | [] => ret []
  | a :: l => bnd (f a) fun b => bnd (mapL f l) fun bs => ret (b :: bs)
/-- what some give: a test and a value -/
def sel (f : α → M (Option β)) : List α → M (List β)
  | [] => ret []
  | a :: l => bnd (f a) fun b => bnd (sel f l) fun bs => ret (match b with | some x => x :: bs | none => bs)
end M
/-! ### the judgements -/
def Rs1 (S : Base) (B : Bo S) (H G : Hp) (Q : VK) (d : D) : Prop := ∀ v H' G', Ok B H' G' → Ch B H G H' G' → Rp S B G' v d → Q v H'
def EvD (S : Base) (te : TE) (m : Env → M D) : Prop := ∀ B σ H G ρ Q, Ok B H G → Er S B G σ ρ → (m ρ).run (Rs1 S B H G Q) → te σ H Q
/-- a new list that may be changed -/
def Rs2 (S : Base) (B : Bo S) (H G : Hp) (Q : VK) (ds : List D) : Prop := ∀ p xs H' G', FrA H p → Ok B H' G' → Ch B H G H' G' → H' p = some (.lst xs) → G' p = none → RpA S B G' xs ds → Q (.ref p) H'
def EvL (S : Base) (te : TE) (m : Env → M (List D)) : Prop := ∀ B σ H G ρ Q, Ok B H G → Er S B G σ ρ → (m ρ).run (Rs2 S B H G Q) → te σ H Q
def EvT (S : Base) (tt : TT) (m : Env → M Bool) : Prop := ∀ B σ H G ρ Q, Ok B H G → Er S B G σ ρ → (m ρ).run (fun b => ∀ H' G', Ok B H' G' → Ch B H G H' G' → Q b H') → tt σ H Q
def EvA (S : Base) (ta : TA) (m : Env → M (List D)) : Prop := ∀ B σ H G ρ Q, Ok B H G → Er S B G σ ρ → (m ρ).run (fun ds => ∀ vs H' G', Ok B H' G' → Ch B H G H' G' → RpA S B G' vs ds → Q vs H') → ta σ H Q
def EvO (S : Base) (to : TO) (m : Env → M (Option Int)) : Prop := ∀ B σ H G ρ Q, Ok B H G → Er S B G σ ρ → (m ρ).run (fun o => ∀ H' G', Ok B H' G' → Ch B H G H' G' → Q o H') → to σ H Q
/-- an operation of two values -/
def R2D (S : Base) (r : R2) (f : D → D → M D) : Prop := ∀ B H G x y d e Q, Ok B H G → Rp S B G x d → Rp S B G y e → (f d e).run (Rs1 S B H G Q) → r x y H Q
def R2L (S : Base) (r : R2) (f : D → D → M (List D)) : Prop := ∀ B H G x y d e Q, Ok B H G → Rp S B G x d → Rp S B G y e → (f d e).run (Rs2 S B H G Q) → r x y H Q
def R1D (S : Base) (r : V → Hp → VK → Prop) (f : D → M D) : Prop := ∀ B H G x d Q, Ok B H G → Rp S B G x d → (f d).run (Rs1 S B H G Q) → r x H Q
def RCD (S : Base) (r : List V → Hp → VK → Prop) (f : List D → M D) : Prop := ∀ B H G vs ds Q, Ok B H G → RpA S B G vs ds → (f ds).run (Rs1 S B H G Q) → r vs H Q
def RCL (S : Base) (r : List V → Hp → VK → Prop) (f : List D → M (List D)) : Prop := ∀ B H G vs ds Q, Ok B H G → RpA S B G vs ds → (f ds).run (Rs2 S B H G Q) → r vs H Q
theorem Rs1.now {H G : Hp} {Q : VK} {d : D} {v : V} (k : Ok B H G) (h : Rs1 S B H G Q d) (r : Rp S B G v d) : Q v H := h v H G k Ch.refl r
theorem Rs1.after {H G H1 G1 : Hp} {Q : VK} {d : D} (c : Ch B H G H1 G1) (h : Rs1 S B H G Q d) : Rs1 S B H1 G1 Q d := fun v H' G' k c' r => h v H' G' k (c.trans c') r
theorem Rs2.after {H G H1 G1 : Hp} {Q : VK} {ds : List D} (c : Ch B H G H1 G1) (h : Rs2 S B H G Q ds) : Rs2 S B H1 G1 Q ds := fun p xs H' G' n k c' h1 h2 r => h p xs H' G' (c.fr p n) k (c.trans c') h1 h2 r
/-- a new list stays as it is -/
theorem Rs1.frz {H G : Hp} {Q : VK} {ds : List D} (k0 : Ok B H G) (h : Rs1 S B H G Q (.lst ds)) : Rs2 S B H G Q ds := fun p xs H' G' n k c h1 h2 r => by
  have hs : Sub G' (upd G' p (.lst xs)) := sub_new h2
  refine h (.ref p) H' (upd G' p (.lst xs)) ⟨fun a u e => ?_, fun b q e => ?_, k.bx, k.tb, fun a ps e => ?_⟩ ⟨c.ch, c.fr, c.ext.trans hs, fun a u e => ?_⟩ (.lst upd_same (r.mono hs))
  · by_cases z : a = p
    · subst z; rw [upd_same] at e; rw [h1]; exact e
    · rw [upd_ne z] at e; exact k.sub a u e
  · rw [upd_ne (k0.ne e n)]; exact k.nm b q e
  · by_cases z : a = p
    · subst z; rw [upd_same] at e; cases e
    · rw [upd_ne z] at e; exact k.nt a ps e
  · by_cases z : a = p
    · subst z; exact .inr n
    · rw [upd_ne z] at e; exact c.new a u e
end Dv
namespace Dv
open PySem PySem.Spec PyProof.Rows L2
variable {S : Base} {B : Bo S}
def dOf : V → Option D
  | .non => some .non
  | .bl b => some (.bl b)
  | .int i => some (.int i)
  | .str x => some (.str x)
  | _ => none
theorem rp_dOf {G : Hp} {v : V} {d : D} (h : dOf v = some d) : Rp S B G v d := by
  cases v <;> simp only [dOf, Option.some.injEq, reduceCtorEq] at h <;> subst h
  · exact .non
  · exact .bl _
  · exact .int _
  · exact .str _
def vOf : D → Option V
  | .non => some .non
  | .bl b => some (.bl b)
  | .int i => some (.int i)
  | .str x => some (.str x)
  | _ => none
theorem rp_vOf {G : Hp} {v u : V} {d : D} (h : vOf d = some v) (r : Rp S B G u d) : u = v := by
  cases r <;> simp only [vOf, Option.some.injEq, reduceCtorEq] at h <;> exact h
theorem M.run_opt {α : Type} {o : Option α} {Q : α → Prop} (h : (M.opt o).run Q) : ∃ a, o = some a ∧ Q a := by
  cases o with
  | none => exact h.elim
  | some a => exact ⟨a, rfl, h⟩
section
variable {ta tb te : TE} {ma mb me : Env → M D} {tt t u : TT} {mt mu : Env → M Bool} {r : R2}
theorem ed_var {i : Nat} : EvD S (tVar i) (fun ρ => M.opt (ρ[i]?.join)) := fun B σ H G ρ Q k er h => by
  obtain ⟨d, e, q⟩ := M.run_opt h
  have e' : ρ[i]? = some (some d) := by
    cases h1 : ρ[i]? with
    | none => rw [h1] at e; cases e
    | some o => rw [h1] at e; rw [show o = some d from e]
  obtain ⟨v, h1, h2⟩ := er.get i d e'
  exact ⟨v, h1, q.now k h2⟩
theorem ed_c {v : V} : EvD S (tC v) (fun _ => M.opt (dOf v)) := fun B σ H G ρ Q k er h => by
  obtain ⟨d, e, q⟩ := M.run_opt h
  exact q.now k (rp_dOf e)
theorem ed_op {f : D → D → M D} (hr : R2D S r f) (ha : EvD S ta ma) (hb : EvD S tb mb) : EvD S (tOp r ta tb) (fun ρ => M.bnd (ma ρ) fun x => M.bnd (mb ρ) fun y => f x y) := fun B σ H G ρ Q k er h =>
  ha B σ H G ρ _ k er ((ma ρ).mono (fun d hd v H1 G1 k1 c1 r1 => hb B σ H1 G1 ρ _ k1 (er.mono c1.ext) ((mb ρ).mono (fun e he v2 H2 G2 k2 c2 r2 => hr B H2 G2 v v2 d e Q k2 (r1.mono c2.ext) r2 ((f d e).mono (fun z hz => hz.after (c1.trans c2)) he)) hd)) h)
theorem el_op {f : D → D → M (List D)} (hr : R2L S r f) (ha : EvD S ta ma) (hb : EvD S tb mb) : EvL S (tOp r ta tb) (fun ρ => M.bnd (ma ρ) fun x => M.bnd (mb ρ) fun y => f x y) := fun B σ H G ρ Q k er h =>
  ha B σ H G ρ _ k er ((ma ρ).mono (fun d hd v H1 G1 k1 c1 r1 => hb B σ H1 G1 ρ _ k1 (er.mono c1.ext) ((mb ρ).mono (fun e he v2 H2 G2 k2 c2 r2 => hr B H2 G2 v v2 d e Q k2 (r1.mono c2.ext) r2 ((f d e).mono (fun z hz => hz.after (c1.trans c2)) he)) hd)) h)
theorem ed_un {r : V → Hp → VK → Prop} {f : D → M D} (hr : R1D S r f) (ha : EvD S ta ma) : EvD S (tUn r ta) (fun ρ => M.bnd (ma ρ) f) := fun B σ H G ρ Q k er h =>
  ha B σ H G ρ _ k er ((ma ρ).mono (fun d hd v H1 G1 k1 c1 r1 => hr B H1 G1 v d Q k1 r1 ((f d).mono (fun z hz => hz.after c1) hd)) h)
theorem EvL.d {m : Env → M (List D)} (h : EvL S te m) : EvD S te (fun ρ => M.bnd (m ρ) fun ds => M.ret (.lst ds)) := fun B σ H G ρ Q k er q =>
  h B σ H G ρ Q k er ((m ρ).mono (fun ds hd => Rs1.frz k hd) q)
theorem ed_if (ht : EvT S t mt) (ha : EvD S ta ma) (hb : EvD S tb mb) : EvD S (tIf t ta tb) (fun ρ => M.bnd (mt ρ) fun b => if b = true then ma ρ else mb ρ) := fun B σ H G ρ Q k er h =>
  ht B σ H G ρ _ k er ((mt ρ).mono (fun b hb' H1 G1 k1 c1 => by
    cases b with
    | true => exact ha B σ H1 G1 ρ Q k1 (er.mono c1.ext) ((ma ρ).mono (fun z hz => hz.after c1) hb')
    | false => exact hb B σ H1 G1 ρ Q k1 (er.mono c1.ext) ((mb ρ).mono (fun z hz => hz.after c1) hb')) h)
theorem el_if {ma mb : Env → M (List D)} (ht : EvT S t mt) (ha : EvL S ta ma) (hb : EvL S tb mb) : EvL S (tIf t ta tb) (fun ρ => M.bnd (mt ρ) fun b => if b = true then ma ρ else mb ρ) := fun B σ H G ρ Q k er h =>
  ht B σ H G ρ _ k er ((mt ρ).mono (fun b hb' H1 G1 k1 c1 => by
    cases b with
    | true => exact ha B σ H1 G1 ρ Q k1 (er.mono c1.ext) ((ma ρ).mono (fun z hz => hz.after c1) hb')
    | false => exact hb B σ H1 G1 ρ Q k1 (er.mono c1.ext) ((mb ρ).mono (fun z hz => hz.after c1) hb')) h)
/-! tests -/
def asB : D → M Bool
  | .bl b => M.ret b
  | _ => M.fail
theorem asB_run {d : D} {Q : Bool → Prop} (h : (asB d).run Q) : ∃ b, d = .bl b ∧ Q b := by
  cases d <;> first | exact ⟨_, rfl, h⟩ | exact h.elim
theorem et_test (h : EvD S te me) : EvT S (tTest te) (fun ρ => M.bnd (me ρ) asB) := fun B σ H G ρ Q k er q =>
  h B σ H G ρ _ k er ((me ρ).mono (fun d hd v H1 G1 k1 c1 r1 => by
    obtain ⟨b, rfl, hb⟩ := asB_run hd
    cases r1
    exact ⟨b, rfl, hb H1 G1 k1 c1⟩) q)
theorem et_B (h : EvD S te me) : EvT S (tB te) (fun ρ => M.bnd (me ρ) asB) := fun B σ H G ρ Q k er q =>
  h B σ H G ρ _ k er ((me ρ).mono (fun d hd v H1 G1 k1 c1 r1 => by
    obtain ⟨b, rfl, hb⟩ := asB_run hd
    cases r1
    exact ⟨b, rfl, hb H1 G1 k1 c1⟩) q)
theorem et_and (h1 : EvT S t mt) (h2 : EvT S u mu) : EvT S (tAnd t u) (fun ρ => M.bnd (mt ρ) fun b => if b = true then mu ρ else M.ret false) := fun B σ H G ρ Q k er h =>
  h1 B σ H G ρ _ k er ((mt ρ).mono (fun b hb H1 G1 k1 c1 => by
    cases b with
    | true => exact h2 B σ H1 G1 ρ Q k1 (er.mono c1.ext) ((mu ρ).mono (fun z hz H2 G2 k2 c2 => hz H2 G2 k2 (c1.trans c2)) hb)
    | false => exact hb H1 G1 k1 c1) h)
theorem et_or (h1 : EvT S t mt) (h2 : EvT S u mu) : EvT S (tOr t u) (fun ρ => M.bnd (mt ρ) fun b => if b = true then M.ret true else mu ρ) := fun B σ H G ρ Q k er h =>
  h1 B σ H G ρ _ k er ((mt ρ).mono (fun b hb H1 G1 k1 c1 => by
    cases b with
    | true => exact hb H1 G1 k1 c1
    | false => exact h2 B σ H1 G1 ρ Q k1 (er.mono c1.ext) ((mu ρ).mono (fun z hz H2 G2 k2 c2 => hz H2 G2 k2 (c1.trans c2)) hb)) h)
theorem et_not (h1 : EvT S t mt) : EvT S (tNot t) (fun ρ => M.bnd (mt ρ) fun b => M.ret (!b)) := fun B σ H G ρ Q k er h =>
  h1 B σ H G ρ _ k er ((mt ρ).mono (fun b hb H1 G1 k1 c1 => hb H1 G1 k1 c1) h)
theorem et_yes : EvT S tYes (fun _ => M.ret true) := fun B σ H G ρ Q k er h => h H G k Ch.refl
theorem ed_andV (ha : EvD S ta ma) (hb : EvD S tb mb) : EvD S (tAndV ta tb) (fun ρ => M.bnd (ma ρ) fun x => M.bnd (asB x) fun b => if b = true then mb ρ else M.ret (.bl false)) := fun B σ H G ρ Q k er h =>
  ha B σ H G ρ _ k er ((ma ρ).mono (fun d hd v H1 G1 k1 c1 r1 => by
    obtain ⟨b, rfl, hb'⟩ := asB_run hd
    cases r1
    refine ⟨b, rfl, ?_⟩
    cases b with
    | true => exact hb B σ H1 G1 ρ Q k1 (er.mono c1.ext) ((mb ρ).mono (fun z hz => hz.after c1) hb')
    | false => exact (show Rs1 S B H G Q (.bl false) from hb') _ H1 G1 k1 c1 (.bl false)) h)
theorem ed_orV (ha : EvD S ta ma) (hb : EvD S tb mb) : EvD S (tOrV ta tb) (fun ρ => M.bnd (ma ρ) fun x => M.bnd (asB x) fun b => if b = true then M.ret (.bl true) else mb ρ) := fun B σ H G ρ Q k er h =>
  ha B σ H G ρ _ k er ((ma ρ).mono (fun d hd v H1 G1 k1 c1 r1 => by
    obtain ⟨b, rfl, hb'⟩ := asB_run hd
    cases r1
    refine ⟨b, rfl, ?_⟩
    cases b with
    | false => exact hb B σ H1 G1 ρ Q k1 (er.mono c1.ext) ((mb ρ).mono (fun z hz => hz.after c1) hb')
    | true => exact (show Rs1 S B H G Q (.bl true) from hb') _ H1 G1 k1 c1 (.bl true)) h)
/-! arguments, displays -/
theorem ea_nil : EvA S tNil (fun _ => M.ret []) := fun B σ H G ρ Q k er h => h [] H G k Ch.refl .nil
theorem ea_cons {tr : TA} {mr : Env → M (List D)} (ha : EvD S ta ma) (hr : EvA S tr mr) : EvA S (tCons ta tr) (fun ρ => M.bnd (ma ρ) fun x => M.bnd (mr ρ) fun l => M.ret (x :: l)) := fun B σ H G ρ Q k er h =>
  ha B σ H G ρ _ k er ((ma ρ).mono (fun d hd v H1 G1 k1 c1 r1 => hr B σ H1 G1 ρ _ k1 (er.mono c1.ext) ((mr ρ).mono (fun l hl vs H2 G2 k2 c2 r2 => hl (v :: vs) H2 G2 k2 (c1.trans c2) (.cons (r1.mono c2.ext) r2)) hd)) h)
theorem small {n : Nat} (h : n ≤ 100000) : n ≤ sizeLine := Nat.le_trans h (by decide)
theorem ed_tup {t : TA} {m : Env → M (List D)} (h : EvA S t m) : EvD S (tTup t) (fun ρ => M.bnd (m ρ) fun l => M.bnd (M.req (l.length ≤ 100000)) fun _ => M.ret (.tup l)) := fun B σ H G ρ Q k er q =>
  h B σ H G ρ _ k er ((m ρ).mono (fun l hl vs H1 G1 k1 c1 r1 => ⟨by rw [r1.length]; exact small hl.1, fun p hp => by
    obtain ⟨k2, c2⟩ := k1.put hp (.tup vs) (fun _ z => nomatch z)
    exact (hl.2 : Rs1 S B H G Q (.tup l)) _ _ _ k2 (c1.trans c2) (.tup (SqT.of upd_same) (r1.mono c2.ext))⟩) q)
theorem el_lst {t : TA} {m : Env → M (List D)} (h : EvA S t m) : EvL S (tLst t) (fun ρ => M.bnd (m ρ) fun l => M.bnd (M.req (l.length ≤ 100000)) fun _ => M.ret l) := fun B σ H G ρ Q k er q =>
  h B σ H G ρ _ k er ((m ρ).mono (fun l hl vs H1 G1 k1 c1 r1 => ⟨by rw [r1.length]; exact small hl.1, fun p hp => by
    obtain ⟨k2, c2⟩ := k1.lay hp (.lst vs)
    exact (hl.2 : Rs2 S B H G Q l) p vs _ _ (c1.fr p (FrA.of hp)) k2 (c1.trans c2) upd_same (k1.sub.free hp) r1⟩) q)
/-! calls -/
def spD (S : Base) (f : List D → M D) : Sp := fun vs H Q _ => ∃ B G ds, Ok B H G ∧ RpA S B G vs ds ∧ (f ds).run (Rs1 S B H G Q)
def spL (S : Base) (f : List D → M (List D)) : Sp := fun vs H Q _ => ∃ B G ds, Ok B H G ∧ RpA S B G vs ds ∧ (f ds).run (Rs2 S B H G Q)
theorem ed_call {f : List D → M D} {E : XK} {t : TA} {m : Env → M (List D)} (h : EvA S t m) : EvD S (tCall (spD S f) [] E t) (fun ρ => M.bnd (m ρ) f) := fun B σ H G ρ Q k er q =>
  h B σ H G ρ _ k er ((m ρ).mono (fun l hl vs H1 G1 k1 c1 r1 => ⟨B, G1, l, k1, by rw [List.append_nil]; exact r1, (f l).mono (fun z hz => hz.after c1) hl⟩) q)
theorem el_call {f : List D → M (List D)} {E : XK} {t : TA} {m : Env → M (List D)} (h : EvA S t m) : EvL S (tCall (spL S f) [] E t) (fun ρ => M.bnd (m ρ) f) := fun B σ H G ρ Q k er q =>
  h B σ H G ρ _ k er ((m ρ).mono (fun l hl vs H1 G1 k1 c1 r1 => ⟨B, G1, l, k1, by rw [List.append_nil]; exact r1, (f l).mono (fun z hz => hz.after c1) hl⟩) q)
def asW : D → M D
  | .web n As Ms => M.ret (.web n As Ms)
  | _ => M.fail
theorem asW_run {d : D} {Q : D → Prop} (h : (asW d).run Q) : ∃ n As Ms, d = .web n As Ms ∧ Q d := by
  cases d <;> first | exact ⟨_, _, _, rfl, h⟩ | exact h.elim
theorem ed_meth {f : List D → M D} {E : XK} {n : Str} {t : TA} {m : Env → M (List D)} (hn : n ∉ (["places", "arrow_rows", "mark_rows", "onward", "backward"] : List Str)) (ho : EvD S ta ma) (h : EvA S t m) : EvD S (tMeth S.C n (spD S f) [] E ta t) (fun ρ => M.bnd (ma ρ) fun w => M.bnd (asW w) fun w => M.bnd (m ρ) fun l => f (w :: l)) := fun B σ H G ρ Q k er q =>
  ho B σ H G ρ _ k er ((ma ρ).mono (fun d hd v H1 G1 k1 c1 r1 => by
    obtain ⟨n', As, Ms, rfl, hd⟩ := asW_run hd
    cases r1 with
    | web hw =>
      obtain ⟨dx, fs, h1, h2⟩ := S.ins hw
      refine ⟨_, dx, fs, rfl, k1.sub _ _ h1, h2 n hn, ?_⟩
      refine h B σ H1 G1 ρ _ k1 (er.mono c1.ext) ((m ρ).mono (fun l hl vs H2 G2 k2 c2 r2 => ⟨B, G2, _ :: l, k2, .cons (.web (S.mono c2.ext hw)) (by rw [List.append_nil]; exact r2), (f _).mono (fun z hz => hz.after (c1.trans c2)) hl⟩) hd)) q)
theorem el_meth {f : List D → M (List D)} {E : XK} {n : Str} {t : TA} {m : Env → M (List D)} (hn : n ∉ (["places", "arrow_rows", "mark_rows", "onward", "backward"] : List Str)) (ho : EvD S ta ma) (h : EvA S t m) : EvL S (tMeth S.C n (spL S f) [] E ta t) (fun ρ => M.bnd (ma ρ) fun w => M.bnd (asW w) fun w => M.bnd (m ρ) fun l => f (w :: l)) := fun B σ H G ρ Q k er q =>
  ho B σ H G ρ _ k er ((ma ρ).mono (fun d hd v H1 G1 k1 c1 r1 => by
    obtain ⟨n', As, Ms, rfl, hd⟩ := asW_run hd
    cases r1 with
    | web hw =>
      obtain ⟨dx, fs, h1, h2⟩ := S.ins hw
      refine ⟨_, dx, fs, rfl, k1.sub _ _ h1, h2 n hn, ?_⟩
      refine h B σ H1 G1 ρ _ k1 (er.mono c1.ext) ((m ρ).mono (fun l hl vs H2 G2 k2 c2 r2 => ⟨B, G2, _ :: l, k2, .cons (.web (S.mono c2.ext hw)) (by rw [List.append_nil]; exact r2), (f _).mono (fun z hz => hz.after (c1.trans c2)) hl⟩) hd)) q)
theorem ed_cb {r : List V → Hp → VK → Prop} {f : List D → M D} {t : TA} {m : Env → M (List D)} (hr : RCD S r f) (h : EvA S t m) : EvD S (tCB r t) (fun ρ => M.bnd (m ρ) f) := fun B σ H G ρ Q k er q =>
  h B σ H G ρ _ k er ((m ρ).mono (fun l hl vs H1 G1 k1 c1 r1 => hr B H1 G1 vs l Q k1 r1 ((f l).mono (fun z hz => hz.after c1) hl)) q)
theorem el_cb {r : List V → Hp → VK → Prop} {f : List D → M (List D)} {t : TA} {m : Env → M (List D)} (hr : RCL S r f) (h : EvA S t m) : EvL S (tCB r t) (fun ρ => M.bnd (m ρ) f) := fun B σ H G ρ Q k er q =>
  h B σ H G ρ _ k er ((m ρ).mono (fun l hl vs H1 G1 k1 c1 r1 => hr B H1 G1 vs l Q k1 r1 ((f l).mono (fun z hz => hz.after c1) hl)) q)
end
end Dv
namespace Dv
open PySem PySem.Spec PyProof.Rows L2
variable {S : Base} {B : Bo S}
theorem ed_chain {r r' : R2} {ta tb tc : TE} {ma mb mc : Env → M D} {f f' : D → D → M D} (hr : R2D S r f) (hr' : R2D S r' f') (ha : EvD S ta ma) (hb : EvD S tb mb) (hc : EvD S tc mc) : EvD S (tChain r r' ta tb tc) (fun ρ => M.bnd (ma ρ) fun x => M.bnd (mb ρ) fun y => M.bnd (f x y) fun z => M.bnd (asB z) fun k => if k = true then M.bnd (mc ρ) fun u => f' y u else M.ret (.bl false)) := fun B σ H G ρ Q k er h =>
  ha B σ H G ρ _ k er ((ma ρ).mono (fun d hd v H1 G1 k1 c1 r1 => hb B σ H1 G1 ρ _ k1 (er.mono c1.ext) ((mb ρ).mono (fun e he v2 H2 G2 k2 c2 r2 => hr B H2 G2 v v2 d e _ k2 (r1.mono c2.ext) r2 ((f d e).mono (fun z hz v3 H3 G3 k3 c3 r3 => by
    obtain ⟨b, rfl, hz⟩ := asB_run hz
    cases r3
    refine ⟨b, rfl, ?_⟩
    have c13 := (c1.trans c2).trans c3
    cases b with
    | true => exact hc B σ H3 G3 ρ _ k3 (er.mono c13.ext) ((mc ρ).mono (fun u hu v4 H4 G4 k4 c4 r4 => hr' B H4 G4 v2 v4 e u Q k4 (r2.mono (c3.trans c4).ext) r4 ((f' e u).mono (fun y hy => hy.after (c13.trans c4)) hu)) hz)
    | false => exact (show Rs1 S B H G Q (.bl false) from hz) _ H3 G3 k3 c13 (.bl false)) he)) hd)) h)
/-! ### whole numbers -/
def opI (C : Int → Int → Prop) (g : Int → Int → V) : D → D → M D
  | .int i, .int j => M.bnd (M.req (C i j)) fun _ => M.opt (dOf (g i j))
  | _, _ => M.fail
def opI0 (g : Int → Int → V) : D → D → M D
  | .int i, .int j => M.opt (dOf (g i j))
  | _, _ => M.fail
theorem opI0_run {g : Int → Int → V} {d e : D} {Q : D → Prop} (h : (opI0 g d e).run Q) : ∃ i j z, d = .int i ∧ e = .int j ∧ dOf (g i j) = some z ∧ Q z := by
  cases d <;> cases e <;> first
    | exact h.elim
    | (obtain ⟨z, h1, h2⟩ := M.run_opt h; exact ⟨_, _, z, rfl, rfl, h1, h2⟩)
theorem opI_run {C : Int → Int → Prop} {g : Int → Int → V} {d e : D} {Q : D → Prop} (h : (opI C g d e).run Q) : ∃ i j z, d = .int i ∧ e = .int j ∧ C i j ∧ dOf (g i j) = some z ∧ Q z := by
  cases d <;> cases e <;> first
    | exact h.elim
    | (obtain ⟨z, h1, h2⟩ := M.run_opt h.2; exact ⟨_, _, z, rfl, rfl, h.1, h1, h2⟩)
theorem r_I0 {g : Int → Int → V} : R2D S (rI0 g) (opI0 g) := fun B H G x y d e Q k rx ry h => by
  obtain ⟨i, j, z, rfl, rfl, h1, h2⟩ := opI0_run h
  cases rx
  cases ry
  exact ⟨i, j, rfl, rfl, Rs1.now k h2 (rp_dOf h1)⟩
theorem r_I {C : Int → Int → Prop} {g : Int → Int → V} : R2D S (rI C g) (opI C g) := fun B H G x y d e Q k rx ry h => by
  obtain ⟨i, j, z, rfl, rfl, hc, h1, h2⟩ := opI_run h
  cases rx
  cases ry
  exact ⟨i, j, rfl, rfl, hc, Rs1.now k h2 (rp_dOf h1)⟩
def unI (g : Int → V) : D → M D
  | .int i => M.opt (dOf (g i))
  | _ => M.fail
theorem r_U {g : Int → V} : R1D S (rU g) (unI g) := fun B H G x d Q k rx h => by
  cases rx <;> first
    | exact h.elim
    | (obtain ⟨z, h1, h2⟩ := M.run_opt h; exact ⟨_, rfl, Rs1.now k h2 (rp_dOf h1)⟩)
/-! ### == of scalars, is None -/
def eqO : Option V → Option V → M Bool
  | some v, some u => M.bnd (M.req (scal v u = true)) fun _ => M.ret (decide (v = u))
  | _, _ => M.fail
def eqS (d e : D) : M Bool := eqO (vOf d) (vOf e)
theorem eqS_run {d e : D} {Q : Bool → Prop} (h : (eqS d e).run Q) : ∃ v u, vOf d = some v ∧ vOf e = some u ∧ scal v u = true ∧ Q (decide (v = u)) := by
  unfold eqS at h
  cases h1 : vOf d with
  | none => rw [h1] at h; exact h.elim
  | some v =>
    cases h2 : vOf e with
    | none => rw [h1, h2] at h; exact h.elim
    | some u => rw [h1, h2] at h; exact ⟨v, u, rfl, rfl, h.1, h.2⟩
theorem r_eq : R2D S rEq (fun d e => M.bnd (eqS d e) fun b => M.ret (.bl b)) := fun B H G x y d e Q k rx ry h => by
  obtain ⟨v, u, h1, h2, h3, h4⟩ := eqS_run h
  rw [rp_vOf h1 rx, rp_vOf h2 ry]
  exact ⟨h3, Rs1.now k h4 (.bl _)⟩
theorem r_ne : R2D S rNe (fun d e => M.bnd (eqS d e) fun b => M.ret (.bl (!b))) := fun B H G x y d e Q k rx ry h => by
  obtain ⟨v, u, h1, h2, h3, h4⟩ := eqS_run h
  rw [rp_vOf h1 rx, rp_vOf h2 ry]
  exact ⟨h3, Rs1.now k h4 (.bl _)⟩
def isNon : D → Bool
  | .non => true
  | _ => false
theorem rp_non {G : Hp} {v : V} {d : D} (r : Rp S B G v d) : decide (v = .non) = isNon d := by
  cases r <;> rfl
def isN : D → D → M D
  | d, .non => M.ret (.bl (isNon d))
  | _, _ => M.fail
def notN : D → D → M D
  | d, .non => M.ret (.bl (!isNon d))
  | _, _ => M.fail
theorem r_isN : R2D S (fun x y H Q => y = .non ∧ Q (.bl (decide (x = .non))) H) isN := fun B H G x y d e Q k rx ry h => by
  cases ry <;> first
    | (cases d <;> exact h.elim)
    | (refine ⟨rfl, ?_⟩; rw [rp_non rx]; cases d <;> exact Rs1.now k h (.bl _))
theorem r_notN : R2D S (fun x y H Q => y = .non ∧ Q (.bl (!decide (x = .non))) H) notN := fun B H G x y d e Q k rx ry h => by
  cases ry <;> first
    | (cases d <;> exact h.elim)
    | (refine ⟨rfl, ?_⟩; rw [rp_non rx]; cases d <;> exact Rs1.now k h (.bl _))
/-! ### items -/
theorem atI_lt {α : Type} {xs : List α} {i : Int} {x : α} (h : atI xs i = some x) : ∃ j, ixN xs.length i = some j ∧ xs[j]? = some x := by
  unfold atI at h
  cases e : ixN xs.length i with
  | none => rw [e] at h; cases h
  | some j => rw [e] at h; exact ⟨j, rfl, h⟩
theorem RpA.atI {G : Hp} {vs : List V} {ds : List D} (r : RpA S B G vs ds) {i : Int} {d : D} (h : L2.atI ds i = some d) : ∃ v, L2.atI vs i = some v ∧ Rp S B G v d := by
  obtain ⟨j, h1, h2⟩ := atI_lt h
  obtain ⟨v, h3, h4⟩ := r.get h2
  refine ⟨v, ?_, h4⟩
  unfold L2.atI
  rw [r.length, h1]
  exact h3
def ixL : D → D → M D
  | .lst ds, .int i => M.opt (L2.atI ds i)
  | _, _ => M.fail
def ixT : D → D → M D
  | .tup ds, .int i => M.opt (L2.atI ds i)
  | _, _ => M.fail
theorem r_ixL : R2D S (rIxL S.K) ixL := fun B H G x y d e Q k rx ry h => by
  cases d <;> cases e <;> first
    | exact h.elim
    | (obtain ⟨z, h1, h2⟩ := M.run_opt h
       cases rx with
       | lst ha hr =>
         cases ry
         obtain ⟨v, h3, h4⟩ := hr.atI h1
         exact ⟨_, _, _, v, rfl, rfl, SqL.of (k.sub _ _ ha), h3, Rs1.now k h2 h4⟩)
theorem r_ixT : R2D S (rIxT S.K) ixT := fun B H G x y d e Q k rx ry h => by
  cases d <;> cases e <;> first
    | exact h.elim
    | (obtain ⟨z, h1, h2⟩ := M.run_opt h
       cases rx with
       | tup ha hr =>
         cases ry
         obtain ⟨v, h3, h4⟩ := hr.atI h1
         exact ⟨_, _, _, v, rfl, rfl, sub_tup k.sub ha, h3, Rs1.now k h2 h4⟩)
def ixQ : D → D → M D
  | .lst ds, .int i => M.opt (L2.atI ds i)
  | .tup ds, .int i => M.opt (L2.atI ds i)
  | .str z, .int i => M.bnd (M.req (z.length ≤ 100000)) fun _ => M.bnd (M.opt (L2.atI z.cps.toList i)) fun c => M.ret (.str ⟨#[c]⟩)
  | _, _ => M.fail
theorem r_ixQ : R2D S (rIx S.K) ixQ := fun B H G x y d e Q k rx ry h => by
  cases d <;> cases e <;> first
    | exact h.elim
    | (obtain ⟨z, h1, h2⟩ := M.run_opt h
       cases rx with
       | lst ha hr =>
         cases ry
         obtain ⟨v, h3, h4⟩ := hr.atI h1
         exact .inl ⟨_, _, _, v, rfl, rfl, SqL.of (k.sub _ _ ha), h3, Rs1.now k h2 h4⟩)
    | (obtain ⟨z, h1, h2⟩ := M.run_opt h
       cases rx with
       | tup ha hr =>
         cases ry
         obtain ⟨v, h3, h4⟩ := hr.atI h1
         exact .inr (.inl ⟨_, _, _, v, rfl, rfl, sub_tup k.sub ha, h3, Rs1.now k h2 h4⟩))
    | (obtain ⟨c, h1, h2⟩ := M.run_opt h.2
       cases rx
       cases ry
       exact .inr (.inr ⟨_, _, c, rfl, rfl, small h.1, h1, Rs1.now k h2 (.str _)⟩))
def lenD : List D → M D
  | [.lst l] => M.ret (.int (l.length : Int))
  | [.tup l] => M.ret (.int (l.length : Int))
  | _ => M.fail
theorem lenD_run {ds : List D} {Q : D → Prop} (h : (lenD ds).run Q) : ∃ l, (ds = [.lst l] ∨ ds = [.tup l]) ∧ Q (.int (l.length : Int)) := by
  unfold lenD at h
  split at h
  · exact ⟨_, .inl rfl, h⟩
  · exact ⟨_, .inr rfl, h⟩
  · exact h.elim
theorem r_len : RCD S (fun xs H Q => ∃ p ys, xs = [.ref p] ∧ (SqL S.K H p ys ∨ SqT S.K H p ys) ∧ Q (.int ys.length) H) lenD := fun B H G vs ds Q k r h => by
  obtain ⟨l, e, h⟩ := lenD_run h
  rcases e with rfl | rfl
  · cases r with
    | cons r1 r2 =>
      cases r2
      cases r1 with
      | lst ha hr => exact ⟨_, _, rfl, .inl (SqL.of (k.sub _ _ ha)), by rw [hr.length]; exact Rs1.now k h (.int _)⟩
  · cases r with
    | cons r1 r2 =>
      cases r2
      cases r1 with
      | tup ha hr => exact ⟨_, _, rfl, .inr (sub_tup k.sub ha), by rw [hr.length]; exact Rs1.now k h (.int _)⟩
def listD : List D → M (List D)
  | [.lst l] => M.ret l
  | [.tup l] => M.ret l
  | _ => M.fail
theorem listD_run {ds : List D} {Q : List D → Prop} (h : (listD ds).run Q) : ∃ l, (ds = [.lst l] ∨ ds = [.tup l]) ∧ Q l := by
  unfold listD at h
  split at h
  · exact ⟨_, .inl rfl, h⟩
  · exact ⟨_, .inr rfl, h⟩
  · exact h.elim
theorem Rs2.lay {H G : Hp} {Q : VK} {ds : List D} (k : Ok B H G) (h : Rs2 S B H G Q ds) {xs : List V} (r : RpA S B G xs ds) {p : Addr} (hp : H p = none) : Q (.ref p) (upd H p (.lst xs)) := by
  obtain ⟨k2, c2⟩ := k.lay hp (.lst xs)
  exact h p xs _ _ (FrA.of hp) k2 c2 upd_same (k.sub.free hp) r
theorem r_list : RCL S (fun xs H Q => ∃ p ys, xs = [.ref p] ∧ (SqL S.K H p ys ∨ SqT S.K H p ys) ∧ ∀ l, H l = none → Q (.ref l) (upd H l (.lst ys))) listD := fun B H G vs ds Q k r h => by
  obtain ⟨l, e, h⟩ := listD_run h
  rcases e with rfl | rfl
  · cases r with
    | cons r1 r2 =>
      cases r2
      cases r1 with
      | lst ha hr => exact ⟨_, _, rfl, .inl (SqL.of (k.sub _ _ ha)), fun p hp => Rs2.lay k h hr hp⟩
  · cases r with
    | cons r1 r2 =>
      cases r2
      cases r1 with
      | tup ha hr => exact ⟨_, _, rfl, .inr (sub_tup k.sub ha), fun p hp => Rs2.lay k h hr hp⟩
def catD : D → D → M (List D)
  | .lst a, .lst b => M.bnd (M.req (a.length + b.length ≤ 100000)) fun _ => M.ret (a ++ b)
  | _, _ => M.fail
theorem r_cat : R2L S rCat catD := fun B H G x y d e Q k rx ry h => by
  cases d <;> cases e <;> first
    | exact h.elim
    | (cases rx with
       | lst ha hr =>
         cases ry with
         | lst hb hs => exact ⟨_, _, _, _, rfl, rfl, k.sub _ _ ha, k.sub _ _ hb, by rw [hr.length, hs.length]; exact small h.1, fun p hp => Rs2.lay k h.2 (hr.append hs) hp⟩)
/-! ### slices -/
def cutD (xs : List D) (lo hi : Option Int) : List D := (xs.drop (HT.sIx xs.length 0 lo)).take (HT.sIx xs.length xs.length hi - HT.sIx xs.length 0 lo)
theorem RpA.cut {G : Hp} {vs : List V} {ds : List D} (r : RpA S B G vs ds) (lo hi : Option Int) : RpA S B G (cutV vs lo hi) (cutD ds lo hi) := by
  unfold cutV cutD
  rw [r.length]
  exact (r.drop _).take _
theorem eo_none : EvO S tNoPart (fun _ => M.ret none) := fun B σ H G ρ Q k er h => h H G k Ch.refl
def asI : D → M Int
  | .int i => M.ret i
  | _ => M.fail
theorem eo_some {te : TE} {me : Env → M D} (h : EvD S te me) : EvO S (tPart te) (fun ρ => M.bnd (me ρ) fun d => M.bnd (asI d) fun i => M.ret (some i)) := fun B σ H G ρ Q k er q =>
  h B σ H G ρ _ k er ((me ρ).mono (fun d hd v H1 G1 k1 c1 r1 => by
    cases r1 <;> first
      | exact hd.elim
      | exact ⟨_, rfl, (show ∀ H' G', Ok B H' G' → Ch B H G H' G' → Q (some _) H' from hd) H1 G1 k1 c1⟩) q)
def asL : D → M (List D)
  | .lst l => M.ret l
  | _ => M.fail
theorem asL_run {d : D} {Q : List D → Prop} (h : (asL d).run Q) : ∃ l, d = .lst l ∧ Q l := by
  cases d <;> first | exact ⟨_, rfl, h⟩ | exact h.elim
theorem el_sl {te : TE} {tl th : TO} {me : Env → M D} {ml mh : Env → M (Option Int)} (h : EvD S te me) (h1 : EvO S tl ml) (h2 : EvO S th mh) : EvL S (tSl (rSlL S.K) te tl th) (fun ρ => M.bnd (me ρ) fun d => M.bnd (ml ρ) fun lo => M.bnd (mh ρ) fun hi => M.bnd (asL d) fun l => M.ret (cutD l lo hi)) := fun B σ H G ρ Q k er q =>
  h B σ H G ρ _ k er ((me ρ).mono (fun d hd v H1 G1 k1 c1 r1 => h1 B σ H1 G1 ρ _ k1 (er.mono c1.ext) ((ml ρ).mono (fun lo hlo H2 G2 k2 c2 => h2 B σ H2 G2 ρ _ k2 (er.mono (c1.trans c2).ext) ((mh ρ).mono (fun hi hhi H3 G3 k3 c3 => by
    obtain ⟨l, rfl, hl⟩ := asL_run hhi
    cases r1.mono (c2.trans c3).ext with
    | lst ha hr => exact ⟨_, _, rfl, SqL.of (k3.sub _ _ ha), fun p hp => Rs2.lay k3 (Rs2.after ((c1.trans c2).trans c3) hl) (hr.cut lo hi) hp⟩) hlo)) hd)) q)
/-! ### starred items -/
theorem ea_star {te : TE} {t : TA} {me : Env → M D} {m : Env → M (List D)} (h : EvD S te me) (hr : EvA S t m) : EvA S (StX.tStar S.K te t) (fun ρ => M.bnd (me ρ) fun d => M.bnd (listD [d]) fun l => M.bnd (m ρ) fun ys => M.ret (l ++ ys)) := fun B σ H G ρ Q k er q =>
  h B σ H G ρ _ k er ((me ρ).mono (fun d hd v H1 G1 k1 c1 r1 => by
    obtain ⟨l, e, hd⟩ := listD_run hd
    have go : ∀ {a : Addr} {xs : List V}, v = .ref a → RpA S B G1 xs l → (SqT S.K H1 a xs ∨ SqL S.K H1 a xs) → ∃ p xs, v = V.ref p ∧ (SqT S.K H1 p xs ∨ SqL S.K H1 p xs) ∧ t σ H1 fun ys H2 => Q (xs ++ ys) H2 := fun {a xs} e rx hs =>
      ⟨a, xs, e, hs, hr B σ H1 G1 ρ _ k1 (er.mono c1.ext) ((m ρ).mono (fun ys hy vs H2 G2 k2 c2 r2 => hy _ H2 G2 k2 (c1.trans c2) ((rx.mono c2.ext).append r2)) hd)⟩
    rcases e with e | e
    · injection e with e _
      subst e
      cases r1 with
      | lst ha hx => exact go rfl hx (.inr (SqL.of (k1.sub _ _ ha)))
    · injection e with e _
      subst e
      cases r1 with
      | tup ha hx => exact go rfl hx (.inl (sub_tup k1.sub ha))) q)
end Dv
namespace Dv
open PySem PySem.Spec PyProof.Rows L2 Sg
variable {S : Base} {B : Bo S}
/-! ### targets -/
def Agree (js : List Nat) (σ σ' : L2.St) : Prop := σ'.length = σ.length ∧ ∀ i, i ∉ js → σ'[i]? = σ[i]?
theorem Agree.trans {js ks : List Nat} {σ σ1 σ2 : L2.St} (a : Agree js σ σ1) (b : Agree ks σ1 σ2) : Agree (js ++ ks) σ σ2 :=
  ⟨b.1.trans a.1, fun i h => by
    rw [List.mem_append, not_or] at h
    rw [b.2 i h.2, a.2 i h.1]⟩
theorem wipe_get (σ : L2.St) : ∀ (vs : List Nat) (i : Nat), (wipe σ vs)[i]? = if i ∈ vs then σ[i]?.map (fun _ => none) else σ[i]?
  | [], i => by simp [wipe]
  | v :: vs, i => by
    unfold wipe
    rw [List.getElem?_set]
    by_cases h : v = i
    · subst h
      rw [if_pos rfl, wipe_length]
      rw [if_pos (List.mem_cons_self ..)]
      by_cases hl : v < σ.length
      · rw [if_pos hl, List.getElem?_eq_getElem hl]; rfl
      · rw [if_neg hl, List.getElem?_eq_none (by omega)]; rfl
    · rw [if_neg h, wipe_get σ vs i]
      have : i ∈ v :: vs ↔ i ∈ vs := by
        rw [List.mem_cons]
        exact ⟨fun z => z.elim (fun e => absurd e.symm h) id, .inr⟩
      simp only [this]
theorem Agree.wipe {js vs : List Nat} {σ σ' : L2.St} (a : Agree js σ σ') (h : ∀ j ∈ js, j ∈ vs) : L2.wipe σ' vs = L2.wipe σ vs := by
  refine List.ext_getElem? fun i => ?_
  rw [wipe_get, wipe_get]
  by_cases hi : i ∈ vs
  · rw [if_pos hi, if_pos hi]
    by_cases hl : i < σ.length
    · rw [List.getElem?_eq_getElem hl, List.getElem?_eq_getElem (by rw [a.1]; exact hl)]; rfl
    · have := a.1
      rw [List.getElem?_eq_none (show σ'.length ≤ i by omega), List.getElem?_eq_none (show σ.length ≤ i by omega)]
  · rw [if_neg hi, if_neg hi, a.2 i fun z => hi (h i z)]
theorem wipe_idem (σ : L2.St) (vs : List Nat) : wipe (wipe σ vs) vs = wipe σ vs := by
  refine List.ext_getElem? fun i => ?_
  rw [wipe_get, wipe_get]
  by_cases hi : i ∈ vs
  · rw [if_pos hi, if_pos hi]
    cases σ[i]? <;> rfl
  · rw [if_neg hi, if_neg hi]
def wipeE (ρ : Env) : List Nat → Env
  | [] => ρ
  | v :: vs => (wipeE ρ vs).set v none
theorem wipeE_len (ρ : Env) : ∀ vs, (wipeE ρ vs).length = ρ.length
  | [] => rfl
  | v :: vs => by unfold wipeE; rw [List.length_set, wipeE_len ρ vs]
theorem wipeE_some {ρ : Env} {i : Nat} {d : D} : ∀ {vs : List Nat}, (wipeE ρ vs)[i]? = some (some d) → ρ[i]? = some (some d) ∧ i ∉ vs
  | [], h => ⟨h, by simp⟩
  | v :: vs, h => by
    unfold wipeE at h
    rw [List.getElem?_set] at h
    by_cases e : v = i
    · rw [if_pos e] at h
      split at h
      · cases h
      · cases h
    · rw [if_neg e] at h
      obtain ⟨h1, h2⟩ := wipeE_some h
      exact ⟨h1, fun z => (List.mem_cons.mp z).elim (fun q => e q.symm) h2⟩
theorem Er.wipe {G : Hp} {σ : L2.St} {ρ : Env} (h : Er S B G σ ρ) (vs : List Nat) : Er S B G (L2.wipe σ vs) (wipeE ρ vs) := ⟨by rw [wipeE_len, wipe_length, h.len], fun i d e => by
  obtain ⟨h1, h2⟩ := wipeE_some e
  obtain ⟨v, h3, h4⟩ := h.get i d h1
  exact ⟨v, by rw [wipe_get, if_neg h2, h3], h4⟩⟩
theorem Er.set {G : Hp} {σ : L2.St} {ρ : Env} (h : Er S B G σ ρ) {v : V} {d : D} (r : Rp S B G v d) (j : Nat) : Er S B G (σ.set j (some v)) (ρ.set j (some d)) := ⟨by rw [List.length_set, List.length_set, h.len], fun i e q => by
  rw [List.getElem?_set] at q ⊢
  by_cases hj : j = i
  · rw [if_pos hj] at q ⊢
    rw [h.len] at q
    split at q
    · rename_i hl
      cases q
      exact ⟨v, by rw [if_pos hl], r⟩
    · cases q
  · rw [if_neg hj] at q ⊢
    exact h.get i e q⟩
def EgD (S : Base) (g : TG) (b : D → Env → M Env) (js : List Nat) : Prop := ∀ B σ H G ρ v d Q, Ok B H G → Er S B G σ ρ → Rp S B G v d → (b d ρ).run (fun ρ' => ∀ σ', Er S B G σ' ρ' → Agree js σ σ' → Q σ' H) → g v σ H Q
def EgsD (S : Base) (g : TGs) (b : List D → Env → M Env) (js : List Nat) : Prop := ∀ B σ H G ρ vs ds Q, Ok B H G → Er S B G σ ρ → RpA S B G vs ds → (b ds ρ).run (fun ρ' => ∀ σ', Er S B G σ' ρ' → Agree js σ σ' → Q σ' H) → g vs σ H Q
theorem eg_name {j : Nat} : EgD S (gName j) (fun d ρ => M.ret (ρ.set j (some d))) [j] := fun B σ H G ρ v d Q k er r h =>
  h _ (er.set r j) ⟨List.length_set, fun i hi => by rw [List.getElem?_set, if_neg fun z => hi (by rw [z]; exact List.mem_singleton.mpr rfl)]⟩
def bNil : List D → Env → M Env
  | [], ρ => M.ret ρ
  | _, _ => M.fail
def bCons (b : D → Env → M Env) (bs : List D → Env → M Env) : List D → Env → M Env
  | d :: ds, ρ => M.bnd (b d ρ) fun ρ' => bs ds ρ'
  | [], _ => M.fail
theorem eg_nil : EgsD S gNil bNil [] := fun B σ H G ρ vs ds Q k er r h => by
  cases r with
  | nil => exact ⟨rfl, h σ er ⟨rfl, fun _ _ => rfl⟩⟩
  | cons _ _ => exact h.elim
theorem eg_cons {g : TG} {gs : TGs} {b : D → Env → M Env} {bs : List D → Env → M Env} {js ks : List Nat} (h1 : EgD S g b js) (h2 : EgsD S gs bs ks) : EgsD S (gCons g gs) (bCons b bs) (js ++ ks) := fun B σ H G ρ vs ds Q k er r h => by
  cases r with
  | nil => exact h.elim
  | cons r1 r2 => exact ⟨_, _, rfl, h1 B σ H G ρ _ _ _ k er r1 ((b _ ρ).mono (fun ρ' hρ σ' er' a => h2 B σ' H G ρ' _ _ _ k er' r2 ((bs _ ρ').mono (fun ρ2 h3 σ2 er2 a2 => h3 σ2 er2 (a.trans a2)) hρ)) h)⟩
def bTup (n : Nat) (bs : List D → Env → M Env) : D → Env → M Env
  | .tup ds, ρ => M.bnd (M.req (ds.length = n)) fun _ => bs ds ρ
  | _, _ => M.fail
theorem eg_tup {n : Nat} {gs : TGs} {bs : List D → Env → M Env} {js : List Nat} (h : EgsD S gs bs js) : EgD S (gTup S.K n gs) (bTup n bs) js := fun B σ H G ρ v d Q k er r q => by
  cases r <;> first
    | exact q.elim
    | (rename_i ha hr
       exact ⟨_, _, rfl, sub_tup k.sub ha, by rw [hr.length]; exact q.1, h B σ H G ρ _ _ Q k er hr q.2⟩)
/-! ### what is walked -/
structure WkD (S : Base) (B : Bo S) (J : It) (G : Hp) (ds : List D) : Prop where
  go : ∀ i L GL, Ok B L GL → Sub G GL → i < ds.length → J.go i L
  st : ∀ L GL, Ok B L GL → Sub G GL → J.stop ds.length L
  yl : ∀ i L GL x L', Ok B L GL → Sub G GL → (h : i < ds.length) → J.yld i L x L' → ∃ GL', Ok B L' GL' ∧ Ch B L GL L' GL' ∧ Rp S B GL' x ds[i]
def EiD (S : Base) (wi : TI) (m : Env → M (List D)) : Prop := ∀ B σ H G ρ R, Ok B H G → Er S B G σ ρ → (m ρ).run (fun ds => ∀ J H' G', Ok B H' G' → Ch B H G H' G' → WkD S B J G' ds → R J H') → wi σ H R
theorem wk_at {J : It} {xs : List V} {G : Hp} {P : Hp → Prop} {ds : List D} (w : Walk J xs.length P (YAt xs)) (hp : ∀ L GL, Ok B L GL → Sub G GL → P L) (r : RpA S B G xs ds) : WkD S B J G ds :=
  ⟨fun i L GL k s h => w.goes i L (by rw [r.length]; exact h) (hp L GL k s), fun L GL k s => by rw [← r.length]; exact w.stops L (hp L GL k s), fun i L GL x L' k s h y => by
    obtain ⟨rfl, hx⟩ := w.yields i L x L' (by rw [r.length]; exact h) (hp L GL k s) y
    obtain ⟨d, h1, h2⟩ := r.getV hx
    rw [List.getElem?_eq_getElem h] at h1
    cases h1
    exact ⟨GL, k, Ch.refl, h2.mono s⟩⟩
theorem ei_list {tl : TE} {m : Env → M D} (h : EvD S tl m) : EiD S (iList S.K tl) (fun ρ => M.bnd (m ρ) asL) := fun B σ H G ρ R k er q =>
  h B σ H G ρ _ k er ((m ρ).mono (fun d hd v H1 G1 k1 c1 r1 => by
    obtain ⟨l, rfl, hl⟩ := asL_run hd
    cases r1 with
    | lst ha hr => exact ⟨_, rfl, ⟨_, SqL.of (k1.sub _ _ ha)⟩, hl _ H1 G1 k1 c1 (wk_at walk_list (fun L GL k s => SqL.of (k.sub _ _ (s _ _ ha))) hr)⟩) q)
def asT : D → M (List D)
  | .tup l => M.ret l
  | _ => M.fail
theorem asT_run {d : D} {Q : List D → Prop} (h : (asT d).run Q) : ∃ l, d = .tup l ∧ Q l := by
  cases d <;> first | exact ⟨_, rfl, h⟩ | exact h.elim
theorem ei_tup {tl : TE} {m : Env → M D} (h : EvD S tl m) : EiD S (iTup S.K tl) (fun ρ => M.bnd (m ρ) asT) := fun B σ H G ρ R k er q =>
  h B σ H G ρ _ k er ((m ρ).mono (fun d hd v H1 G1 k1 c1 r1 => by
    obtain ⟨l, rfl, hl⟩ := asT_run hd
    cases r1 with
    | tup ha hr => exact ⟨_, rfl, ⟨_, sub_tup k1.sub ha⟩, hl _ H1 G1 k1 c1 (wk_at walk_tup (fun L GL k s => sub_tup (s.trans k.sub) ha) hr)⟩) q)
def rngD (lo : Int) (n : Nat) : List D := (List.range n).map fun i : Nat => D.int (lo + (i : Int))
theorem rngD_len (lo : Int) (n : Nat) : (rngD lo n).length = n := by
  unfold rngD
  rw [List.length_map, List.length_range]
theorem wk_range {lo : Int} {n : Nat} {G : Hp} : WkD S B (Itr lo n) G (rngD lo n) :=
  ⟨fun i L GL k s h => by rw [rngD_len] at h; exact walk_range.goes i L h trivial, fun L GL k s => by rw [rngD_len]; exact walk_range.stops L trivial, fun i L GL x L' k s h y => by
    obtain ⟨rfl, rfl⟩ := walk_range.yields i L x L' (by rw [rngD_len] at h; exact h) trivial y
    refine ⟨GL, k, Ch.refl, ?_⟩
    have e : (rngD lo n)[i] = .int (lo + (i : Int)) := by
      simp only [rngD, List.getElem_map, List.getElem_range]
    rw [e]
    exact .int _⟩
def rng1 : List D → M (List D)
  | [.int j] => M.bnd (M.req (-(2 ^ 62) ≤ j ∧ j < 2 ^ 62)) fun _ => M.ret (rngD 0 j.toNat)
  | _ => M.fail
def rng2 : List D → M (List D)
  | [.int i, .int j] => M.bnd (M.req (-(2 ^ 62) ≤ i ∧ i < 2 ^ 62 ∧ -(2 ^ 62) ≤ j ∧ j < 2 ^ 62)) fun _ => M.ret (rngD i (j - i).toNat)
  | _ => M.fail
theorem ei_rng1 {ta : TA} {m : Env → M (List D)} (h : EvA S ta m) : EiD S (iRng1 ta) (fun ρ => M.bnd (m ρ) rng1) := fun B σ H G ρ R k er q =>
  h B σ H G ρ _ k er ((m ρ).mono (fun ds hd vs H1 G1 k1 c1 r1 => by
    unfold rng1 at hd
    split at hd
    · cases r1 with
      | cons a b =>
        cases a
        cases b
        exact ⟨_, rfl, hd.1.1, hd.1.2, hd.2 _ H1 G1 k1 c1 wk_range⟩
    · exact hd.elim) q)
theorem ei_rng2 {ta : TA} {m : Env → M (List D)} (h : EvA S ta m) : EiD S (iRng2 ta) (fun ρ => M.bnd (m ρ) rng2) := fun B σ H G ρ R k er q =>
  h B σ H G ρ _ k er ((m ρ).mono (fun ds hd vs H1 G1 k1 c1 r1 => by
    unfold rng2 at hd
    split at hd
    · cases r1 with
      | cons a b =>
        cases a
        cases b with
        | cons c d =>
          cases c
          cases d
          exact ⟨_, _, rfl, hd.1, hd.2 _ H1 G1 k1 c1 wk_range⟩
    · exact hd.elim) q)
def strD : D → M (List D)
  | .str x => M.ret (x.cps.toList.map fun c => D.str ⟨#[c]⟩)
  | _ => M.fail
theorem ei_str {te : TE} {m : Env → M D} (h : EvD S te m) : EiD S (iStr te) (fun ρ => M.bnd (m ρ) strD) := fun B σ H G ρ R k er q =>
  h B σ H G ρ _ k er ((m ρ).mono (fun d hd v H1 G1 k1 c1 r1 => by
    cases r1 <;> first
      | exact hd.elim
      | (rename_i x
         have el : (x.cps.toList.map fun c => D.str ⟨#[c]⟩).length = x.cps.size := by rw [List.length_map, Array.length_toList]
         refine ⟨_, rfl, (show ∀ J H' G', _ from hd) _ H1 G1 k1 c1 ⟨fun i L GL k s h => ?_, fun L GL k s => ?_, fun i L GL y L' k s h yl => ?_⟩⟩
         · rw [el] at h
           exact walk_str.goes i L h trivial
         · rw [el]
           exact walk_str.stops L trivial
         · obtain ⟨rfl, c, hc, rfl⟩ := walk_str.yields i L y L' (by rw [el] at h; exact h) trivial yl
           refine ⟨GL, k, Ch.refl, ?_⟩
           have : x.cps.toList[i]? = some c := by rw [Array.getElem?_toList]; exact hc
           have hi : i < x.cps.toList.length := (List.getElem?_eq_some_iff.mp this).1
           rw [List.getElem?_eq_getElem hi] at this
           injection this with this
           rw [List.getElem_map, this]
           exact .str _)) q)
/-! ### what may be written -/
theorem Ok.upd {H G : Hp} (k : Ok B H G) {a : Addr} {o : HO} (hg : G a = none) (hl : ∀ u, H a = some u → plainO u = true) (hb : ∀ b q, B.bq = some (b, q) → b ≠ a ∧ q ≠ a) : Ok B (L2.upd H a o) G :=
  ⟨fun c u e => by rw [upd_ne (ne_of_none e hg)]; exact k.sub c u e, k.nm, fun b q e => by
    obtain ⟨h1, h2⟩ := hb b q e
    obtain ⟨ns, i, r, kk, e1, e2, e3⟩ := k.bx b q e
    exact ⟨ns, i, r, kk, by rw [upd_ne h1]; exact e1, by rw [upd_ne h2]; exact e2, e3⟩, tabs_upd k.tb hl, k.nt⟩
theorem Ok.away {H G : Hp} (k : Ok B H G) {a : Addr} (h : FrA H a) : ∀ b q, B.bq = some (b, q) → b ≠ a ∧ q ≠ a := fun b q e => by
  obtain ⟨ns, i, r, kk, e1, e2, e3⟩ := k.bx b q e
  exact ⟨h.ne e1 (fun _ z => nomatch z), h.ne e2 (fun _ z => nomatch z)⟩
theorem Ch.upd {H G H' G' : Hp} (c : Ch B H G H' G') {a : Addr} {o : HO} (h : FrA H a) : Ch B H G (L2.upd H' a o) G' :=
  ⟨fun x u n z e => by rw [upd_ne (h.ne e z)]; exact c.ch x u n z e, fun x e => by
    by_cases z : x = a
    · subst z; exact h
    · exact c.fr x fun u q => e u (by rw [upd_ne z]; exact q), c.ext, c.new⟩
/-- an object that may be changed stays so -/
theorem Ch.mine {H G H' G' : Hp} (c : Ch B H G H' G') {a : Addr} {o : HO} (h : H a = some o) (hg : G a = none) (ho : plainO o = true) (hb : ∀ q, B.bq ≠ some (a, q)) : H' a = some o ∧ G' a = none :=
  ⟨c.ch a o hb (plainO.nt ho) h, by
    cases e : G' a with
    | none => rfl
    | some u => rcases c.new a u e with z | z
                · rw [hg] at z; cases z
                · obtain ⟨ps, e9⟩ := z o h
                  exact absurd e9 (plainO.nt ho ps)⟩
/-! ### a comprehension -/
def lcF (b : D → Env → M Env) (mt : Env → M Bool) (me : Env → M D) (ρ : Env) (d : D) : M (Option D) :=
  M.bnd (b d ρ) fun ρ' => M.bnd (mt ρ') fun t => if t = true then M.bnd (me ρ') fun y => M.ret (some y) else M.ret none
theorem el_lc {wi : TI} {g : TG} {tt : TT} {te : TE} {vs js : List Nat} {mi : Env → M (List D)} {b : D → Env → M Env} {mt : Env → M Bool} {me : Env → M D} (hj : ∀ j ∈ js, j ∈ vs) (hi : EiD S wi mi) (hg : EgD S g b js) (ht : EvT S tt mt) (he : EvD S te me) :
    EvL S (tLc wi g tt te vs) (fun ρ => M.bnd (mi ρ) fun ds => M.bnd (M.req (ds.length ≤ 100000)) fun _ => M.sel (lcF b mt me (wipeE ρ vs)) ds) := fun B σ H G ρ Q k er q =>
  hi B σ H G ρ _ k er ((mi ρ).mono (fun ds hd J H1 G1 k1 c1 wk Dl nD => by
    have nDH : FrA H Dl := c1.fr _ (FrA.of nD)
    have nb : ∀ q, B.bq ≠ some (Dl, q) := fun q e => k.ne e nDH rfl
    have aw := k.away nDH
    refine ⟨fun i m L => m = ds.length - i ∧ i ≤ ds.length ∧ ∃ GL acc done, Ok B L GL ∧ Ch B H1 G1 L GL ∧ L Dl = some (.lst acc) ∧ GL Dl = none ∧ RpA S B GL acc done ∧ done.length ≤ i ∧ (M.sel (lcF b mt me (wipeE ρ vs)) (ds.drop i)).run (fun rest => Rs2 S B H G Q (done ++ rest)), ⟨_, rfl, Nat.zero_le _, ?_⟩, ?_⟩
    · obtain ⟨k2, c2⟩ := k1.lay nD (.lst [])
      exact ⟨G1, [], [], k2, c2, upd_same, k1.sub.free nD, .nil, Nat.le_refl _, hd.2⟩
    · rintro i m L ⟨rfl, hi', GL, acc, done, kL, cL, hD, gD, rD, hdl, hr⟩
      rcases Nat.lt_or_ge i ds.length with hlt | hge
      · refine .inr ⟨wk.go i L GL kL cL.ext hlt, fun L' => (i + 1) ≤ ds.length ∧ ∃ GL acc done, Ok B L' GL ∧ Ch B H1 G1 L' GL ∧ L' Dl = some (.lst acc) ∧ GL Dl = none ∧ RpA S B GL acc done ∧ done.length ≤ i + 1 ∧ (M.sel (lcF b mt me (wipeE ρ vs)) (ds.drop (i + 1))).run (fun rest => Rs2 S B H G Q (done ++ rest)), fun L' hL => ⟨_, by omega, rfl, hL.1, hL.2⟩, fun x L' y => ?_⟩
        obtain ⟨GY, kY, cY, rY⟩ := wk.yl i L GL x L' kL cL.ext hlt y
        obtain ⟨hDY, gDY⟩ := cY.mine hD gD rfl nb
        have eD : ds.drop i = ds[i] :: ds.drop (i + 1) := List.drop_eq_getElem_cons hlt
        rw [eD] at hr
        have cHY := cL.trans cY
        refine hg B (wipe σ vs) L' GY (wipeE ρ vs) x ds[i] _ kY ((er.mono (c1.trans cHY).ext).wipe vs) rY (M.mono _ (fun ρ' hρ σ' er' ag => ?_) hr)
        refine ⟨by rw [ag.wipe hj, wipe_idem], ?_⟩
        refine ht B σ' L' GY ρ' _ kY er' (M.mono _ (fun t htt L3 G3 k3 c3 => ?_) hρ)
        obtain ⟨hD3, gD3⟩ := c3.mine hDY gDY rfl nb
        cases t with
        | false => exact ⟨hlt, G3, acc, done, k3, cHY.trans c3, hD3, gD3, rD.mono (cY.trans c3).ext, by omega, htt⟩
        | true =>
          refine he B σ' L3 G3 ρ' _ k3 (er'.mono c3.ext) (M.mono _ (fun y' hy v4 L4 G4 k4 c4 r4 => ?_) htt)
          obtain ⟨hD4, gD4⟩ := c4.mine hD3 gD3 rfl nb
          have ra := rD.mono ((cY.trans c3).trans c4).ext
          refine ⟨acc, hD4, ?_, hlt, G4, acc ++ [v4], done ++ [y'], k4.upd gD4 (fun u e => by rw [hD4] at e; cases e; rfl) aw, ((cHY.trans c3).trans c4).upd (FrA.of nD), upd_same, gD4, ra.append (.cons r4 .nil), by rw [List.length_append]; exact Nat.succ_le_succ hdl, ?_⟩
          · rw [ra.length]
            have := hd.1
            exact Nat.lt_of_lt_of_le (show done.length < 100000 by omega) (by decide)
          · refine M.mono _ (fun rest hrest => ?_) hy
            rw [List.append_assoc]
            exact hrest
      · obtain rfl : i = ds.length := by omega
        refine .inl ⟨wk.st L GL kL cL.ext, ?_⟩
        rw [List.drop_length] at hr
        have h9 : Rs2 S B H G Q (done ++ []) := hr
        rw [List.append_nil] at h9
        exact h9 Dl acc L GL nDH kL (c1.trans cL) hD gD rD) q)
end Dv
namespace Dv
open PySem PySem.Spec PyProof.Rows L2 Sg
variable {S : Base} {B : Bo S}
/-- a slot: data that stays; a list or a dict that is this def's own and may be changed -/
inductive Sl where
  | f (d : D) | o (ds : List D) | od (es : List (Key × D)) | ot (es : List (Ks × D))
abbrev Ev := List (Option Sl)
def Sl.owned : Sl → Bool
  | .f _ => false
  | _ => true
def Sl.data : Sl → D
  | .f d => d
  | .o ds => .lst ds
  | .od es => .dk es
  | .ot es => .dt es
def mask (ρ : Ev) : Env := ρ.map fun s => s.bind fun s => match s with | .f d => some d | _ => none
def peek (ρ : Ev) : Env := ρ.map fun s => s.map Sl.data
def Ow (S : Base) (B : Bo S) (G : Hp) : HO → Sl → Prop
  | .lst xs, .o ds => RpA S B G xs ds
  | .dK kvs, .od es => kvs.map (·.1) = es.map (·.1) ∧ RpA S B G (kvs.map (·.2)) (es.map (·.2))
  | .dT kvs, .ot es => kvs.map (·.1) = es.map (·.1) ∧ RpA S B G (kvs.map (·.2)) (es.map (·.2))
  | _, _ => False
theorem Ow.mono {G G' : Hp} (s : Sub G G') {o : HO} {l : Sl} (h : Ow S B G o l) : Ow S B G' o l := by
  cases o <;> cases l <;> first
    | exact h.elim
    | exact RpA.mono s h
    | exact ⟨h.1, h.2.mono s⟩
theorem Ow.rp {G : Hp} {a : Addr} {o : HO} {l : Sl} (hg : G a = some o) (h : Ow S B G o l) : Rp S B G (.ref a) l.data := by
  cases o <;> cases l <;> first
    | exact h.elim
    | exact .lst hg h
    | exact .dk hg h.1 h.2
    | exact .dt hg h.1 h.2
theorem Ow.pl {G : Hp} {o : HO} {l : Sl} (h : Ow S B G o l) : plainO o = true := by
  cases o <;> cases l <;> first
    | exact h.elim
    | rfl
structure RsG (S : Base) (B : Bo S) (H0 G0 : Hp) (σ : L2.St) (H : Hp) (ρ : Ev) (G : Hp) (A : Nat → Addr) : Prop where
  aw : ∀ b q, B.bq = some (b, q) → ∃ o u, H0 b = some (.lst o) ∧ H0 q = some (.lst u)
  ok : Ok B H G
  ch : Ch B H0 G0 H G
  len : ρ.length = σ.length
  fz : ∀ (i : Nat) (d : D), ρ[i]? = some (some (.f d)) → ∃ v, σ[i]? = some (some v) ∧ Rp S B G v d
  ow : ∀ (i : Nat) (s : Sl), ρ[i]? = some (some s) → s.owned = true → σ[i]? = some (some (.ref (A i))) ∧ FrA H0 (A i) ∧ G (A i) = none ∧ ∃ o, H (A i) = some o ∧ Ow S B G o s
  dj : ∀ (i j : Nat) (s t : Sl), ρ[i]? = some (some s) → ρ[j]? = some (some t) → s.owned = true → t.owned = true → i ≠ j → A i ≠ A j
def Rs (S : Base) (B : Bo S) (H0 G0 : Hp) (σ : L2.St) (H : Hp) (ρ : Ev) : Prop := ∃ G A, RsG S B H0 G0 σ H ρ G A
section
variable {H0 G0 H G : Hp} {σ : L2.St} {ρ : Ev} {A : Nat → Addr}
theorem RsG.away (r : RsG S B H0 G0 σ H ρ G A) {a : Addr} (h : FrA H0 a) : ∀ b q, B.bq = some (b, q) → b ≠ a ∧ q ≠ a := fun b q e => by
  obtain ⟨o, u, h1, h2⟩ := r.aw b q e
  exact ⟨h.ne h1 (fun _ z => nomatch z), h.ne h2 (fun _ z => nomatch z)⟩
theorem RsG.nb (r : RsG S B H0 G0 σ H ρ G A) {a : Addr} (h : FrA H0 a) : ∀ q, B.bq ≠ some (a, q) := fun q e => (r.away h a q e).1 rfl
theorem mask_get {ρ : Ev} {i : Nat} {d : D} (h : (mask ρ)[i]? = some (some d)) : ρ[i]? = some (some (.f d)) := by
  unfold mask at h
  rw [List.getElem?_map] at h
  cases e : ρ[i]? with
  | none => rw [e] at h; cases h
  | some o =>
    rw [e] at h
    cases o with
    | none => cases h
    | some s => cases s <;> first | (cases h; rfl) | cases h
theorem peek_get {ρ : Ev} {i : Nat} {d : D} (h : (peek ρ)[i]? = some (some d)) : ∃ s, ρ[i]? = some (some s) ∧ s.data = d := by
  unfold peek at h
  rw [List.getElem?_map] at h
  cases e : ρ[i]? with
  | none => rw [e] at h; cases h
  | some o =>
    rw [e] at h
    cases o with
    | none => cases h
    | some s => cases h; exact ⟨s, rfl, rfl⟩
theorem RsG.mask (r : RsG S B H0 G0 σ H ρ G A) : Er S B G σ (mask ρ) := ⟨by unfold Dv.mask; rw [List.length_map, r.len], fun i d e => r.fz i d (mask_get e)⟩
/-- behind an expression that saw what stays -/
theorem RsG.step (r : RsG S B H0 G0 σ H ρ G A) {H' G' : Hp} (k : Ok B H' G') (c : Ch B H G H' G') : RsG S B H0 G0 σ H' ρ G' A :=
  ⟨r.aw, k, r.ch.trans c, r.len, fun i d e => by
    obtain ⟨v, h1, h2⟩ := r.fz i d e
    exact ⟨v, h1, h2.mono c.ext⟩, fun i s e w => by
    obtain ⟨h1, h2, h3, o, h4, h5⟩ := r.ow i s e w
    obtain ⟨h6, h7⟩ := c.mine h4 h3 h5.pl (r.nb h2)
    exact ⟨h1, h2, h7, o, h6, h5.mono c.ext⟩, r.dj⟩
/-- what is seen with all that is one's own -/
theorem RsG.peek (r : RsG S B H0 G0 σ H ρ G A) : ∃ G1, Ok B H G1 ∧ Er S B G1 σ (peek ρ) ∧ Ch B H0 G0 H G1 ∧ ∀ H' G1', Ok B H' G1' → Ch B H G1 H' G1' → ∃ G', RsG S B H0 G0 σ H' ρ G' A ∧ Sub G G' ∧ Sub G' G1' := by
  classical
  let own : Addr → Prop := fun a => ∃ i s, ρ[i]? = some (some s) ∧ s.owned = true ∧ A i = a
  have og : ∀ a, own a → G a = none := fun a ⟨i, s, e, w, ha⟩ => by
    rw [← ha]; exact (r.ow i s e w).2.2.1
  have oh : ∀ a, own a → FrA H0 a := fun a ⟨i, s, e, w, ha⟩ => by
    rw [← ha]; exact (r.ow i s e w).2.1
  let G1 : Hp := fun a => if own a then H a else G a
  have g1 : ∀ a, own a → G1 a = H a := fun a h => if_pos h
  have g2 : ∀ a, ¬ own a → G1 a = G a := fun a h => if_neg h
  have gs : Sub G G1 := fun a o e => by
    by_cases h : own a
    · rw [og a h] at e; cases e
    · rw [g2 a h]; exact e
  refine ⟨G1, ⟨fun a o e => ?_, fun b q e => ?_, r.ok.bx, r.ok.tb, fun a ps e => ?_⟩, ⟨?_, fun i d e => ?_⟩, ⟨r.ch.ch, r.ch.fr, r.ch.ext.trans gs, fun a o e => ?_⟩, fun H' G1' k c => ?_⟩
  · by_cases h : own a
    · rw [g1 a h] at e; exact e
    · rw [g2 a h] at e; exact r.ok.sub a o e
  · have h : ¬ own b := fun h => r.nb (oh b h) q e
    rw [g2 b h]; exact r.ok.nm b q e
  · by_cases h : own a
    · rw [g1 a h] at e
      obtain ⟨i, s, e1, w, rfl⟩ := h
      obtain ⟨_, _, _, o, h4, h5⟩ := r.ow i s e1 w
      rw [h4] at e
      exact (plainO.nt h5.pl) ps (Option.some.inj e)
    · rw [g2 a h] at e; exact r.ok.nt a ps e
  · unfold Dv.peek; rw [List.length_map, r.len]
  · obtain ⟨s, h1, h2⟩ := peek_get e
    cases hw : s.owned with
    | false =>
      cases s with
      | f d' =>
        obtain ⟨v, h3, h4⟩ := r.fz i d' h1
        cases h2
        exact ⟨v, h3, h4.mono gs⟩
      | _ => cases hw
    | true =>
      obtain ⟨h3, h4, h5, o, h6, h7⟩ := r.ow i s h1 hw
      refine ⟨_, h3, ?_⟩
      rw [← h2]
      exact Ow.rp (by rw [g1 _ ⟨i, s, h1, hw, rfl⟩]; exact h6) (h7.mono gs)
  · by_cases h : own a
    · exact .inr (oh a h)
    · rw [g2 a h] at e; exact r.ch.new a o e
  · let G' : Hp := fun a => if own a then none else G1' a
    have k1 : ∀ a, own a → G' a = none := fun a h => if_pos h
    have k2 : ∀ a, ¬ own a → G' a = G1' a := fun a h => if_neg h
    have gg : Sub G G' := fun a o e => by
      have h : ¬ own a := fun h => by rw [og a h] at e; cases e
      rw [k2 a h]; exact c.ext a o (gs a o e)
    refine ⟨G', ⟨r.aw, ⟨fun a o e => ?_, fun b q e => ?_, k.bx, k.tb, fun a ps e => ?_⟩, ⟨fun a o n z e => c.ch a o n z (r.ch.ch a o n z e), fun a e => r.ch.fr a (c.fr a e), r.ch.ext.trans gg, fun a o e => ?_⟩, r.len, fun i d e => ?_, fun i s e w => ?_, r.dj⟩, gg, fun a o e => ?_⟩
    · by_cases h : own a
      · rw [k1 a h] at e; cases e
      · rw [k2 a h] at e; exact k.sub a o e
    · by_cases h : own b
      · exact k1 b h
      · rw [k2 b h]; exact k.nm b q e
    · by_cases h : own a
      · rw [k1 a h] at e; cases e
      · rw [k2 a h] at e; exact k.nt a ps e
    · by_cases h : own a
      · rw [k1 a h] at e; cases e
      · rw [k2 a h] at e
        rcases c.new a o e with z | z
        · rw [g2 a h] at z; exact r.ch.new a o z
        · exact .inr (r.ch.fr a z)
    · obtain ⟨v, h1, h2⟩ := r.fz i d e
      exact ⟨v, h1, h2.mono gg⟩
    · obtain ⟨h1, h2, h3, o, h4, h5⟩ := r.ow i s e w
      exact ⟨h1, h2, k1 _ ⟨i, s, e, w, rfl⟩, o, c.ch _ _ (r.nb h2) (plainO.nt h5.pl) h4, h5.mono gg⟩
    · by_cases h : own a
      · rw [k1 a h] at e; cases e
      · rw [k2 a h] at e; exact e
theorem get_set {α : Type} {ρ : List α} {i j : Nat} {x y : α} (h : (ρ.set j x)[i]? = some y) : (i = j ∧ y = x) ∨ (i ≠ j ∧ ρ[i]? = some y) := by
  rw [List.getElem?_set] at h
  by_cases e : j = i
  · rw [if_pos e] at h
    split at h
    · cases h; exact .inl ⟨e.symm, rfl⟩
    · cases h
  · rw [if_neg e] at h
    exact .inr ⟨fun z => e z.symm, h⟩
theorem set_get {α : Type} {ρ : List α} {i : Nat} {x : α} (h : i < ρ.length) : (ρ.set i x)[i]? = some x := by
  rw [List.getElem?_set, if_pos rfl, if_pos h]
/-- a name gets data that stays -/
theorem RsG.set (r : RsG S B H0 G0 σ H ρ G A) {v : V} {d : D} (h : Rp S B G v d) (j : Nat) : RsG S B H0 G0 (σ.set j (some v)) H (ρ.set j (some (.f d))) G A := by
  refine ⟨r.aw, r.ok, r.ch, by rw [List.length_set, List.length_set, r.len], fun i e q => ?_, fun i s q w => ?_, fun i i' s t q1 q2 w1 w2 => ?_⟩
  · rcases get_set q with ⟨rfl, z⟩ | ⟨n, q⟩
    · cases z
      have hl : i < σ.length := by
        have := (List.getElem?_eq_some_iff.mp q).1
        rwa [List.length_set, r.len] at this
      exact ⟨v, set_get hl, h⟩
    · obtain ⟨u, h1, h2⟩ := r.fz i e q
      exact ⟨u, by rw [List.getElem?_set, if_neg n.symm]; exact h1, h2⟩
  · rcases get_set q with ⟨rfl, z⟩ | ⟨n, q⟩
    · cases z; cases w
    · obtain ⟨h1, h2⟩ := r.ow i s q w
      exact ⟨by rw [List.getElem?_set, if_neg n.symm]; exact h1, h2⟩
  · rcases get_set q1 with ⟨rfl, z⟩ | ⟨n, q1⟩
    · cases z; cases w1
    · rcases get_set q2 with ⟨rfl, z⟩ | ⟨n2, q2⟩
      · cases z; cases w2
      · exact r.dj i i' s t q1 q2 w1 w2
/-- a name gets an object of one's own -/
theorem RsG.own (r : RsG S B H0 G0 σ H ρ G A) {p : Addr} {o : HO} {s : Sl} (hs : s.owned = true) (h0 : FrA H0 p) (hh : H p = some o) (hg : G p = none) (hw : Ow S B G o s) (nw : ∀ i t, ρ[i]? = some (some t) → t.owned = true → A i ≠ p) (j : Nat) :
    RsG S B H0 G0 (σ.set j (some (.ref p))) H (ρ.set j (some s)) G (fun i => if i = j then p else A i) := by
  refine ⟨r.aw, r.ok, r.ch, by rw [List.length_set, List.length_set, r.len], fun i e q => ?_, fun i t q w => ?_, fun i i' t t' q1 q2 w1 w2 ne => ?_⟩
  · rcases get_set q with ⟨rfl, z⟩ | ⟨n, q⟩
    · cases z; cases hs
    · obtain ⟨u, h1, h2⟩ := r.fz i e q
      exact ⟨u, by rw [List.getElem?_set, if_neg n.symm]; exact h1, h2⟩
  · rcases get_set q with ⟨rfl, z⟩ | ⟨n, q⟩
    · cases z
      have hl : i < σ.length := by
        have := (List.getElem?_eq_some_iff.mp q).1
        rwa [List.length_set, r.len] at this
      simp only [if_true]
      exact ⟨set_get hl, h0, hg, o, hh, hw⟩
    · obtain ⟨h1, h2⟩ := r.ow i t q w
      simp only [if_neg n]
      exact ⟨by rw [List.getElem?_set, if_neg n.symm]; exact h1, h2⟩
  · rcases get_set q1 with ⟨e1, z⟩ | ⟨n, p1⟩
    · rcases get_set q2 with ⟨e2, z2⟩ | ⟨n2, p2⟩
      · exact absurd (e1.trans e2.symm) ne
      · simp only [if_pos e1, if_neg n2]
        exact (nw i' t' p2 w2).symm
    · rcases get_set q2 with ⟨e2, z2⟩ | ⟨n2, p2⟩
      · simp only [if_pos e2, if_neg n]
        exact nw i t p1 w1
      · simp only [if_neg n, if_neg n2]
        exact r.dj i i' t t' p1 p2 w1 w2 ne
/-- an object of one's own is changed -/
theorem RsG.put (r : RsG S B H0 G0 σ H ρ G A) {j : Nat} {s s' : Sl} {o' : HO} (h : ρ[j]? = some (some s)) (w : s.owned = true) (w' : s'.owned = true) (hw : Ow S B G o' s') : RsG S B H0 G0 σ (upd H (A j) o') (ρ.set j (some s')) G A := by
  obtain ⟨h1, h2, h3, o, h4, h5⟩ := r.ow j s h w
  refine ⟨r.aw, r.ok.upd h3 (fun u e => by rw [h4] at e; cases e; exact h5.pl) (r.away h2), r.ch.upd h2, by rw [List.length_set, r.len], fun i e q => ?_, fun i t q wt => ?_, fun i i' t t' q1 q2 w1 w2 ne => ?_⟩
  · rcases get_set q with ⟨rfl, z⟩ | ⟨n, q⟩
    · cases z; cases w'
    · exact r.fz i e q
  · rcases get_set q with ⟨rfl, z⟩ | ⟨n, q⟩
    · cases z
      exact ⟨h1, h2, h3, o', upd_same, hw⟩
    · obtain ⟨e1, e2, e3, u, e4, e5⟩ := r.ow i t q wt
      exact ⟨e1, e2, e3, u, by rw [upd_ne (r.dj i j t s q h wt w n)]; exact e4, e5⟩
  · have hh : ∀ {i : Nat} {t : Sl}, (ρ.set j (some s'))[i]? = some (some t) → t.owned = true → ∃ t2 : Sl, ρ[i]? = some (some t2) ∧ t2.owned = true := fun {i t} q wt => by
      rcases get_set q with ⟨rfl, z⟩ | ⟨n, q⟩
      · exact ⟨s, h, w⟩
      · exact ⟨t, q, wt⟩
    obtain ⟨a, a1, a2⟩ := hh q1 w1
    obtain ⟨b, b1, b2⟩ := hh q2 w2
    exact r.dj i i' a b a1 b1 a2 b2 ne
/-- another part is known to stay -/
theorem RsG.rebase {G1 : Hp} (r : RsG S B H0 G1 σ H ρ G A) (s : Sub G0 G1) (n : ∀ a o, G1 a = some o → G0 a = some o ∨ FrA H0 a) : RsG S B H0 G0 σ H ρ G A :=
  ⟨r.aw, r.ok, ⟨r.ch.ch, r.ch.fr, s.trans r.ch.ext, fun a o e => (r.ch.new a o e).elim (n a o) .inr⟩, r.len, r.fz, r.ow, r.dj⟩
theorem RsG.here (r : RsG S B H0 G0 σ H ρ G A) : RsG S B H0 G σ H ρ G A := ⟨r.aw, r.ok, ⟨r.ch.ch, r.ch.fr, Sub.refl G, fun _ _ e => .inl e⟩, r.len, r.fz, r.ow, r.dj⟩
end
end Dv
namespace Dv
open PySem PySem.Spec PyProof.Rows L2 Sg
variable {S : Base} {B : Bo S} {X : XK}
/-- an error: its word, the name and the value of what it bears -/
structure Exn where
  w : Str
  f : Str
  v : V
/-- what its dict holds: the word alone where it bears nothing else -/
def xdF (x : Exn) : List (Str × V) := if x.f = "word" then [("word", .str x.w)] else [("word", .str x.w), (x.f, x.v)]
theorem xdF_f {x : Exn} (h : x.f ≠ "word") : xdF x = ([("word", .str x.w), (x.f, x.v)] : List (Str × V)) := if_neg h
theorem xdF_w {w : Str} {v : V} : xdF ⟨w, "word", v⟩ = ([("word", .str w)] : List (Str × V)) := if_pos rfl
def RsE {S : Base} (B : Bo S) (H G : Hp) (X : XK) (x : Exn) : Prop := ∀ dd H' G', Ok B H' G' → Ch B H G H' G' → FrA H dd → H' dd = some (.xd (xdF x)) → X (.ref (S.cls x.w)) (some dd) H'
theorem RsE.after {H G H1 G1 : Hp} {X : XK} {x : Exn} (c : Ch B H G H1 G1) (h : RsE B H G X x) : RsE B H1 G1 X x := fun dd H' G' k c' n e => h dd H' G' k (c.trans c') (c.fr _ n) e
/-- how a statement ends -/
inductive Ou where
  | nx (ρ : Ev) | bk (ρ : Ev) | ct (ρ : Ev) | rt (d : D) | rl (ds : List D) | er (x : Exn)
def Fin (S : Base) (X : XK) (B : Bo S) (H0 G0 : Hp) (E : Ends) : Ou → Prop
  | .er x => RsE B H0 G0 X x
  | .nx ρ => ∀ σ H, Rs S B H0 G0 σ H ρ → E.nx σ H
  | .bk ρ => ∀ σ H, Rs S B H0 G0 σ H ρ → E.bk σ H
  | .ct ρ => ∀ σ H, Rs S B H0 G0 σ H ρ → E.ct σ H
  | .rt d => ∀ v H G, Ok B H G → Ch B H0 G0 H G → Rp S B G v d → E.rt v H
  | .rl ds => ∀ p xs H G, FrA H0 p → Ok B H G → Ch B H0 G0 H G → H p = some (.lst xs) → G p = none → RpA S B G xs ds → E.rt (.ref p) H
def SvD (S : Base) (X : XK) (ts : TS) (g : Ev → M Ou) : Prop := ∀ B H0 G0 σ H ρ E, Rs S B H0 G0 σ H ρ → (g ρ).run (Fin S X B H0 G0 E) → ts E σ H
def thenM (g : Ev → M Ou) : Ou → M Ou
  | .nx ρ => g ρ
  | o => M.ret o
theorem sv_seq {t u : TS} {g h : Ev → M Ou} (h1 : SvD S X t g) (h2 : SvD S X u h) : SvD S X (tSeq t u) (fun ρ => M.bnd (g ρ) (thenM h)) := fun B H0 G0 σ H ρ E r q =>
  h1 B H0 G0 σ H ρ _ r ((g ρ).mono (fun o ho => by
    cases o with
    | nx ρ' => exact fun σ' H' r' => h2 B H0 G0 σ' H' ρ' E r' ho
    | _ => exact ho) q)
theorem sv_next : SvD S X tNext (fun ρ => M.ret (.nx ρ)) := fun B H0 G0 σ H ρ E r q => q σ H r
theorem sv_break : SvD S X tBreak (fun ρ => M.ret (.bk ρ)) := fun B H0 G0 σ H ρ E r q => q σ H r
theorem sv_cont : SvD S X tCont (fun ρ => M.ret (.ct ρ)) := fun B H0 G0 σ H ρ E r q => q σ H r
theorem sv_never : SvD S X tNever (fun _ => M.fail) := fun B H0 G0 σ H ρ E r q => q.elim
/-- x = e, of what stays -/
theorem sv_asg {te : TE} {m : Env → M D} {i : Nat} (h : EvD S te m) : SvD S X (tAsg te (gName i)) (fun ρ => M.bnd (m (mask ρ)) fun d => M.ret (.nx (ρ.set i (some (.f d))))) := fun B H0 G0 σ H ρ E ⟨G, A, r⟩ q =>
  h B σ H G (mask ρ) _ r.ok r.mask ((m (mask ρ)).mono (fun d hd v H1 G1 k1 c1 r1 => (show ∀ σ H, Rs S B H0 G0 σ H (ρ.set i (some (.f d))) → E.nx σ H from hd) _ _ ⟨G1, A, (r.step k1 c1).set r1 i⟩) q)
def scD (d : D) : Bool := (vOf d).isSome
theorem rp_sc {G G' : Hp} {v : V} {d : D} (h : scD d = true) (r : Rp S B G v d) : Rp S B G' v d := by
  cases r <;> first
    | exact .non
    | exact .bl _
    | exact .int _
    | exact .str _
    | cases h
/-- x = e, a plain value; all may be looked at -/
theorem sv_asgP {te : TE} {m : Env → M D} {i : Nat} (h : EvD S te m) : SvD S X (tAsg te (gName i)) (fun ρ => M.bnd (m (peek ρ)) fun d => M.bnd (M.req (scD d = true)) fun _ => M.ret (.nx (ρ.set i (some (.f d))))) := fun B H0 G0 σ H ρ E ⟨G, A, r⟩ q => by
  obtain ⟨G1, k, er, _, back⟩ := r.peek
  refine h B σ H G1 (peek ρ) _ k er ((m (peek ρ)).mono (fun d hd v H1 G2 k1 c1 r1 => ?_) q)
  obtain ⟨G', r', _, gs⟩ := back H1 G2 k1 c1
  exact (show ∀ σ H, Rs S B H0 G0 σ H (ρ.set i (some (.f d))) → E.nx σ H from hd.2) _ _ ⟨G', A, r'.set (rp_sc hd.1 r1) i⟩
/-- x = a new list -/
theorem sv_asgL {te : TE} {m : Env → M (List D)} {i : Nat} (h : EvL S te m) : SvD S X (tAsg te (gName i)) (fun ρ => M.bnd (m (mask ρ)) fun ds => M.ret (.nx (ρ.set i (some (.o ds))))) := fun B H0 G0 σ H ρ E ⟨G, A, r⟩ q =>
  h B σ H G (mask ρ) _ r.ok r.mask ((m (mask ρ)).mono (fun ds hd p xs H1 G1 n k1 c1 h1 g1 r1 => by
    have r' := r.step k1 c1
    exact (show ∀ σ H, Rs S B H0 G0 σ H (ρ.set i (some (.o ds))) → E.nx σ H from hd) _ _ ⟨G1, _, r'.own (s := .o ds) rfl (r.ch.fr _ n) h1 g1 r1 (fun j t e w z => by
      obtain ⟨_, _, _, o, ho, hw⟩ := r.ow j t e w
      exact n.ne ho (plainO.nt hw.pl) z) i⟩) q)
/-- a new list, all may be looked at: what is one's own stays so if the items are plain -/
theorem sv_asgLP {te : TE} {m : Env → M (List D)} {i : Nat} (h : EvL S te m) : SvD S X (tAsg te (gName i)) (fun ρ => M.bnd (m (peek ρ)) fun ds => M.bnd (M.req (ds.all scD = true)) fun _ => M.ret (.nx (ρ.set i (some (.o ds))))) := fun B H0 G0 σ H ρ E ⟨G, A, r⟩ q => by
  obtain ⟨G1, k, er, _, back⟩ := r.peek
  refine h B σ H G1 (peek ρ) _ k er ((m (peek ρ)).mono (fun ds hd p xs H1 G2 n k1 c1 h1 g1 r1 => ?_) q)
  obtain ⟨G', r', _, gs⟩ := back H1 G2 k1 c1
  have all : ∀ {xs : List V} {ds : List D}, RpA S B G2 xs ds → ds.all scD = true → RpA S B G' xs ds := by
    intro xs ds ra
    induction ds generalizing xs with
    | nil => intro _; cases ra; exact .nil
    | cons d ds ih =>
      intro hh
      rw [List.all_cons, Bool.and_eq_true] at hh
      cases ra with
      | cons a b => exact .cons (rp_sc hh.1 a) (ih b hh.2)
  have gp : G' p = none := gs.free g1
  exact (show ∀ σ H, Rs S B H0 G0 σ H (ρ.set i (some (.o ds))) → E.nx σ H from hd.2) _ _ ⟨G', _, r'.own (s := .o ds) rfl (r.ch.fr _ n) h1 gp (all r1 hd.1) (fun j t e w z => by
      obtain ⟨_, _, _, o, ho, hw⟩ := r.ow j t e w
      exact n.ne ho (plainO.nt hw.pl) z) i⟩
/-! ### targets of names, once more -/
def EgS (S : Base) (g : TG) (b : D → Ev → M Ev) : Prop := ∀ B H0 G0 σ H ρ G A v d Q, RsG S B H0 G0 σ H ρ G A → Rp S B G v d → (b d ρ).run (fun ρ' => ∀ σ', RsG S B H0 G0 σ' H ρ' G A → Q σ' H) → g v σ H Q
def EgsS (S : Base) (g : TGs) (b : List D → Ev → M Ev) : Prop := ∀ B H0 G0 σ H ρ G A vs ds Q, RsG S B H0 G0 σ H ρ G A → RpA S B G vs ds → (b ds ρ).run (fun ρ' => ∀ σ', RsG S B H0 G0 σ' H ρ' G A → Q σ' H) → g vs σ H Q
def sName (j : Nat) : D → Ev → M Ev := fun d ρ => M.ret (ρ.set j (some (.f d)))
def sNil : List D → Ev → M Ev
  | [], ρ => M.ret ρ
  | _, _ => M.fail
def sCons (b : D → Ev → M Ev) (bs : List D → Ev → M Ev) : List D → Ev → M Ev
  | d :: ds, ρ => M.bnd (b d ρ) fun ρ' => bs ds ρ'
  | [], _ => M.fail
def sTup (n : Nat) (bs : List D → Ev → M Ev) : D → Ev → M Ev
  | .tup ds, ρ => M.bnd (M.req (ds.length = n)) fun _ => bs ds ρ
  | _, _ => M.fail
theorem es_name {j : Nat} : EgS S (gName j) (sName j) := fun B H0 G0 σ H ρ G A v d Q r h q => q _ (r.set h j)
theorem es_nil : EgsS S gNil sNil := fun B H0 G0 σ H ρ G A vs ds Q r h q => by
  cases h with
  | nil => exact ⟨rfl, q σ r⟩
  | cons _ _ => exact q.elim
theorem es_cons {g : TG} {gs : TGs} {b : D → Ev → M Ev} {bs : List D → Ev → M Ev} (h1 : EgS S g b) (h2 : EgsS S gs bs) : EgsS S (gCons g gs) (sCons b bs) := fun B H0 G0 σ H ρ G A vs ds Q r h q => by
  cases h with
  | nil => exact q.elim
  | cons r1 r2 => exact ⟨_, _, rfl, h1 B H0 G0 σ H ρ G A _ _ _ r r1 ((b _ ρ).mono (fun ρ' hρ σ' r' => h2 B H0 G0 σ' H ρ' G A _ _ _ r' r2 hρ) q)⟩
theorem es_tup {n : Nat} {gs : TGs} {bs : List D → Ev → M Ev} (h : EgsS S gs bs) : EgS S (gTup S.K n gs) (sTup n bs) := fun B H0 G0 σ H ρ G A v d Q r hr q => by
  cases hr <;> first
    | exact q.elim
    | (rename_i ha hx
       exact ⟨_, _, rfl, sub_tup r.ok.sub ha, by rw [hx.length]; exact q.1, h B H0 G0 σ H ρ G A _ _ Q r hx q.2⟩)
theorem sv_asgT {te : TE} {m : Env → M D} {g : TG} {b : D → Ev → M Ev} (h : EvD S te m) (hg : EgS S g b) : SvD S X (tAsg te g) (fun ρ => M.bnd (m (mask ρ)) fun d => M.bnd (b d ρ) fun ρ' => M.ret (.nx ρ')) := fun B H0 G0 σ H ρ E ⟨G, A, r⟩ q =>
  h B σ H G (mask ρ) _ r.ok r.mask ((m (mask ρ)).mono (fun d hd v H1 G1 k1 c1 r1 => hg B H0 G0 σ H1 ρ G1 A v d _ (r.step k1 c1) r1 ((b d ρ).mono (fun ρ' hρ σ' r' => (show ∀ σ H, Rs S B H0 G0 σ H ρ' → E.nx σ H from hρ) _ _ ⟨G1, A, r'⟩) hd)) q)
def two (i j : Nat) (ρ : Ev) : List D → M Ou
  | [d, e] => M.ret (.nx ((ρ.set i (some (.f d))).set j (some (.f e))))
  | _ => M.fail
theorem sv_par {i j : Nat} {ta : TA} {m : Env → M (List D)} (h : EvA S ta m) : SvD S X (tPar i j ta) (fun ρ => M.bnd (m (mask ρ)) (two i j ρ)) := fun B H0 G0 σ H ρ E ⟨G, A, r⟩ q =>
  h B σ H G (mask ρ) _ r.ok r.mask ((m (mask ρ)).mono (fun ds hd vs H1 G1 k1 c1 r1 => by
    unfold two at hd
    split at hd
    · cases r1 with
      | cons a b =>
        cases b with
        | cons c d =>
          cases d
          exact ⟨_, _, rfl, (show ∀ σ H, Rs S B H0 G0 σ H _ → E.nx σ H from hd) _ _ ⟨G1, A, ((r.step k1 c1).set a i).set c j⟩⟩
    · exact hd.elim) q)
theorem sv_if {c : TT} {mc : Env → M Bool} {t u : TS} {g h : Ev → M Ou} (hc : EvT S c mc) (h1 : SvD S X t g) (h2 : SvD S X u h) : SvD S X (tIfS c t u) (fun ρ => M.bnd (mc (peek ρ)) fun b => if b = true then g ρ else h ρ) := fun B H0 G0 σ H ρ E ⟨G, A, r⟩ q => by
  obtain ⟨G1, k, er, _, back⟩ := r.peek
  refine hc B σ H G1 (peek ρ) _ k er ((mc (peek ρ)).mono (fun b hb H1 G2 k1 c1 => ?_) q)
  obtain ⟨G', r', _⟩ := back H1 G2 k1 c1
  cases b with
  | true => exact h1 B H0 G0 σ H1 ρ E ⟨G', A, r'⟩ hb
  | false => exact h2 B H0 G0 σ H1 ρ E ⟨G', A, r'⟩ hb
theorem sv_ret {te : TE} {m : Env → M D} (h : EvD S te m) : SvD S X (tRet te) (fun ρ => M.bnd (m (peek ρ)) fun d => M.ret (.rt d)) := fun B H0 G0 σ H ρ E ⟨G, A, r⟩ q => by
  obtain ⟨G1, k, er, c0, back⟩ := r.peek
  exact h B σ H G1 (peek ρ) _ k er ((m (peek ρ)).mono (fun d hd v H1 G2 k1 c1 r1 => (show ∀ v H G, Ok B H G → Ch B H0 G0 H G → Rp S B G v d → E.rt v H from hd) v H1 G2 k1 (c0.trans c1) r1) q)
theorem sv_retL {te : TE} {m : Env → M (List D)} (h : EvL S te m) : SvD S X (tRet te) (fun ρ => M.bnd (m (peek ρ)) fun ds => M.ret (.rl ds)) := fun B H0 G0 σ H ρ E ⟨G, A, r⟩ q => by
  obtain ⟨G1, k, er, c0, back⟩ := r.peek
  exact h B σ H G1 (peek ρ) _ k er ((m (peek ρ)).mono (fun ds hd p xs H1 G2 n k1 c1 h1 g1 r1 => (show ∀ p xs H G, FrA H0 p → Ok B H G → Ch B H0 G0 H G → H p = some (.lst xs) → G p = none → RpA S B G xs ds → E.rt (.ref p) H from hd) p xs H1 G2 (c0.fr _ n) k1 (c0.trans c1) h1 g1 r1) q)
def ownL (ρ : Ev) (i : Nat) : M (List D) := match ρ[i]? with
  | some (some (.o ds)) => M.ret ds
  | _ => M.fail
theorem ownL_run {ρ : Ev} {i : Nat} {Q : List D → Prop} (h : (ownL ρ i).run Q) : ∃ ds, ρ[i]? = some (some (.o ds)) ∧ Q ds := by
  unfold ownL at h
  split at h
  · exact ⟨_, by assumption, h⟩
  · exact h.elim
/-- return x, a list of one's own -/
theorem sv_retV {i : Nat} : SvD S X (tRet (tVar i)) (fun ρ => M.bnd (ownL ρ i) fun ds => M.ret (.rl ds)) := fun B H0 G0 σ H ρ E ⟨G, A, r⟩ q => by
  obtain ⟨ds, e, q⟩ := ownL_run q
  obtain ⟨h1, h2, h3, o, h4, h5⟩ := r.ow i _ e rfl
  cases o <;> first
    | exact h5.elim
    | exact ⟨_, h1, (show ∀ p xs H G, FrA H0 p → Ok B H G → Ch B H0 G0 H G → H p = some (.lst xs) → G p = none → RpA S B G xs ds → E.rt (.ref p) H from q) _ _ H G h2 r.ok r.ch h4 h3 h5⟩
theorem sv_retN : SvD S X tRetN (fun _ => M.ret (.rt .non)) := fun B H0 G0 σ H ρ E ⟨G, A, r⟩ q => (show ∀ v H G, Ok B H G → Ch B H0 G0 H G → Rp S B G v .non → E.rt v H from q) .non H G r.ok r.ch .non
theorem sv_drop {te : TE} {m : Env → M D} (h : EvD S te m) : SvD S X (tDrop te) (fun ρ => M.bnd (m (peek ρ)) fun _ => M.ret (.nx ρ)) := fun B H0 G0 σ H ρ E ⟨G, A, r⟩ q => by
  obtain ⟨G1, k, er, c0, back⟩ := r.peek
  refine h B σ H G1 (peek ρ) _ k er ((m (peek ρ)).mono (fun d hd v H1 G2 k1 c1 r1 => ?_) q)
  obtain ⟨G', r', _⟩ := back H1 G2 k1 c1
  exact (show ∀ σ H, Rs S B H0 G0 σ H ρ → E.nx σ H from hd) _ _ ⟨G', A, r'⟩
/-- x.append(e) -/
theorem sv_app {i : Nat} {te : TE} {m : Env → M D} (h : EvD S te m) : SvD S X (tDrop (tBM S.K "list" rAppend (tVar i) (tCons te tNil))) (fun ρ => M.bnd (ownL ρ i) fun ds => M.bnd (M.req (ds.length < 100000)) fun _ => M.bnd (m (mask ρ)) fun d => M.ret (.nx (ρ.set i (some (.o (ds ++ [d])))))) := fun B H0 G0 σ H ρ E ⟨G, A, r⟩ q => by
  obtain ⟨ds, e, hl, q⟩ := ownL_run q
  obtain ⟨h1, h2, h3, o, h4, h5⟩ := r.ow i _ e rfl
  cases o <;> first
    | exact h5.elim
    | (rename_i xs
       refine ⟨_, h1, .inl ⟨rfl, _, SqL.of h4⟩, ?_⟩
       refine h B σ H G (mask ρ) _ r.ok r.mask ((m (mask ρ)).mono (fun d hd v H1 G1 k1 c1 r1 => ?_) q)
       have r' := r.step k1 c1
       obtain ⟨_, _, _, o', h4', h5'⟩ := r'.ow i _ e rfl
       have h6 := c1.ch _ (.lst xs) (r.nb h2) (fun _ z => nomatch z) h4
       rw [h6] at h4'
       cases h4'
       refine ⟨_, xs, v, rfl, rfl, h6, ?_, (show ∀ σ H, Rs S B H0 G0 σ H _ → E.nx σ H from hd) _ _ ⟨G1, A, r'.put (s' := .o (ds ++ [d])) e rfl rfl (RpA.append h5' (.cons r1 .nil))⟩⟩
       rw [RpA.length h5]
       exact Nat.lt_of_lt_of_le hl (by decide))
theorem sv_appP {i : Nat} {te : TE} {m : Env → M D} (h : EvD S te m) : SvD S X (tDrop (tBM S.K "list" rAppend (tVar i) (tCons te tNil))) (fun ρ => M.bnd (ownL ρ i) fun ds => M.bnd (M.req (ds.length < 100000)) fun _ => M.bnd (m (peek ρ)) fun d => M.bnd (M.req (scD d = true)) fun _ => M.ret (.nx (ρ.set i (some (.o (ds ++ [d])))))) := fun B H0 G0 σ H ρ E ⟨G, A, r⟩ q => by
  obtain ⟨ds, e, hl, q⟩ := ownL_run q
  obtain ⟨h1, h2, h3, o, h4, h5⟩ := r.ow i _ e rfl
  cases o <;> first
    | exact h5.elim
    | (rename_i xs
       refine ⟨_, h1, .inl ⟨rfl, _, SqL.of h4⟩, ?_⟩
       obtain ⟨Gp, kp, er, c0, back⟩ := r.peek
       refine h B σ H Gp (peek ρ) _ kp er ((m (peek ρ)).mono (fun d hd v H1 G1 k1 c1 r1 => ?_) q)
       obtain ⟨G', r', _⟩ := back H1 G1 k1 c1
       obtain ⟨_, _, _, o', h4', h5'⟩ := r'.ow i _ e rfl
       have h6 := c1.ch _ (.lst xs) (r.nb h2) (fun _ z => nomatch z) h4
       rw [h6] at h4'
       cases h4'
       refine ⟨_, xs, v, rfl, rfl, h6, ?_, (show ∀ σ H, Rs S B H0 G0 σ H _ → E.nx σ H from hd.2) _ _ ⟨G', A, r'.put (s' := .o (ds ++ [d])) e rfl rfl (RpA.append h5' (.cons (rp_sc hd.1 r1) .nil))⟩⟩
       rw [RpA.length h5]
       exact Nat.lt_of_lt_of_le hl (by decide))
/-! ### loops -/
def loopM (b : D → Ev → M Ev) (g : Ev → M Ou) : List D → Ev → M Ou
  | [], ρ => M.ret (.nx ρ)
  | d :: ds, ρ => M.bnd (b d ρ) fun ρ1 => M.bnd (g ρ1) fun o => match o with
    | .nx ρ2 => loopM b g ds ρ2
    | .ct ρ2 => loopM b g ds ρ2
    | .bk ρ2 => M.ret (.nx ρ2)
    | .rt d => M.ret (.rt d)
    | .rl l => M.ret (.rl l)
    | .er x => M.ret (.er x)
theorem Fin.base {H0 G0 G1 : Hp} {E : Ends} {o : Ou} (s : Sub G0 G1) (n : ∀ a o, G1 a = some o → G0 a = some o ∨ FrA H0 a) (h : Fin S X B H0 G0 E o) : Fin S X B H0 G1 E o := by
  have cc : ∀ {H G}, Ch B H0 G1 H G → Ch B H0 G0 H G := fun c => ⟨c.ch, c.fr, s.trans c.ext, fun a o e => (c.new a o e).elim (n a o) .inr⟩
  cases o with
  | nx ρ => exact fun σ H ⟨G, A, r⟩ => h σ H ⟨G, A, r.rebase s n⟩
  | bk ρ => exact fun σ H ⟨G, A, r⟩ => h σ H ⟨G, A, r.rebase s n⟩
  | ct ρ => exact fun σ H ⟨G, A, r⟩ => h σ H ⟨G, A, r.rebase s n⟩
  | rt d => exact fun v H G k c r => h v H G k (cc c) r
  | rl l => exact fun p xs H G a k c b d r => h p xs H G a k (cc c) b d r
  | er x => exact fun dd H G k c n e => h dd H G k (cc c) n e
theorem loop_go {J : It} {g : TG} {tb : TS} {b : D → Ev → M Ev} {gb : Ev → M Ou} (hg : EgS S g b) (hb : SvD S X tb gb) {ds : List D} {H0 G1 : Hp} {E : Ends} (wk : WkD S B J G1 ds) {σ : L2.St} {H : Hp} {ρ : Ev} (r : Rs S B H0 G1 σ H ρ) (h : (loopM b gb ds ρ).run (Fin S X B H0 G1 E)) :
    ∃ W : Nat → Nat → L2.St → Hp → Prop, (∃ m, W 0 m σ H) ∧ ∀ i m σ H, W i m σ H → (J.stop i H ∧ E.nx σ H) ∨ (J.go i H ∧ ∃ N : L2.St → Hp → Prop, (∀ σ' H', N σ' H' → ∃ m', m' < m ∧ W (i + 1) m' σ' H') ∧ ∀ x H', J.yld i H x H' → g x σ H' fun σ2 H2 => tb { E with nx := N, ct := N, bk := E.nx } σ2 H2) := by
  refine ⟨fun i m σ L => m = ds.length - i ∧ i ≤ ds.length ∧ ∃ ρ, Rs S B H0 G1 σ L ρ ∧ (loopM b gb (ds.drop i) ρ).run (Fin S X B H0 G1 E), ⟨_, rfl, Nat.zero_le _, ρ, r, h⟩, ?_⟩
  rintro i m σ L ⟨rfl, hi, ρ, ⟨GL, A, r⟩, q⟩
  rcases Nat.lt_or_ge i ds.length with hlt | hge
  · refine .inr ⟨wk.go i L GL r.ok r.ch.ext hlt, fun σ' L' => (i + 1) ≤ ds.length ∧ ∃ ρ, Rs S B H0 G1 σ' L' ρ ∧ (loopM b gb (ds.drop (i + 1)) ρ).run (Fin S X B H0 G1 E), fun σ' L' hh => ⟨_, by omega, rfl, hh⟩, fun x L' y => ?_⟩
    obtain ⟨GY, kY, cY, rY⟩ := wk.yl i L GL x L' r.ok r.ch.ext hlt y
    rw [List.drop_eq_getElem_cons hlt] at q
    refine hg B H0 G1 σ L' ρ GY A x ds[i] _ (r.step kY cY) rY ((b ds[i] ρ).mono (fun ρ1 h1 σ1 r1 => ?_) q)
    refine hb B H0 G1 σ1 L' ρ1 _ ⟨GY, A, r1⟩ ((gb ρ1).mono (fun o ho => ?_) h1)
    cases o with
    | nx ρ2 => exact fun σ2 L2 r2 => ⟨hlt, ρ2, r2, ho⟩
    | ct ρ2 => exact fun σ2 L2 r2 => ⟨hlt, ρ2, r2, ho⟩
    | bk ρ2 => exact ho
    | rt d => exact ho
    | rl l => exact ho
    | er x => exact ho
  · obtain rfl : i = ds.length := by omega
    rw [List.drop_length] at q
    exact .inl ⟨wk.st L GL r.ok r.ch.ext, (show ∀ σ H, Rs S B H0 G1 σ H ρ → E.nx σ H from q) _ _ ⟨GL, A, r⟩⟩
theorem sv_for {wi : TI} {g : TG} {tb : TS} {mi : Env → M (List D)} {b : D → Ev → M Ev} {gb : Ev → M Ou} (hi : EiD S wi mi) (hg : EgS S g b) (hb : SvD S X tb gb) : SvD S X (tFor wi g tb) (fun ρ => M.bnd (mi (mask ρ)) fun ds => loopM b gb ds ρ) := fun B H0 G0 σ H ρ E ⟨G, A, r⟩ q =>
  hi B σ H G (mask ρ) _ r.ok r.mask ((mi (mask ρ)).mono (fun ds hd J H1 G1 k1 c1 wk => by
    have r1 := r.step k1 c1
    exact loop_go hg hb wk ⟨G1, A, r1.here⟩ (M.mono _ (fun o ho => ho.base r1.ch.ext r1.ch.new) hd)) q)
/-- the walk may be over what is one's own and not changed meanwhile: plain items -/
theorem sv_forP {wi : TI} {g : TG} {tb : TS} {mi : Env → M (List D)} {b : D → Ev → M Ev} {gb : Ev → M Ou} (hi : EiD S wi mi) (hg : EgS S g b) (hb : SvD S X tb gb) (hw : ∀ B J G G' ds, WkD S B J G ds → WkD S B J G' ds) : SvD S X (tFor wi g tb) (fun ρ => M.bnd (mi (peek ρ)) fun ds => loopM b gb ds ρ) := fun B H0 G0 σ H ρ E ⟨G, A, r⟩ q => by
  obtain ⟨Gp, kp, er, c0, back⟩ := r.peek
  refine hi B σ H Gp (peek ρ) _ kp er ((mi (peek ρ)).mono (fun ds hd J H1 G1 k1 c1 wk => ?_) q)
  obtain ⟨G', r', _⟩ := back H1 G1 k1 c1
  exact loop_go hg hb (hw _ _ _ _ _ wk) ⟨G', A, r'.here⟩ (M.mono _ (fun o ho => ho.base r'.ch.ext r'.ch.new) hd)
def whileM (mc : Env → M Bool) (g : Ev → M Ou) : Nat → Ev → M Ou
  | 0, _ => M.fail
  | n + 1, ρ => M.bnd (mc (peek ρ)) fun b => if b = true then M.bnd (g ρ) fun o => match o with
    | .nx ρ2 => whileM mc g n ρ2
    | .ct ρ2 => whileM mc g n ρ2
    | .bk ρ2 => M.ret (.nx ρ2)
    | .rt d => M.ret (.rt d)
    | .rl l => M.ret (.rl l)
    | .er x => M.ret (.er x) else M.ret (.nx ρ)
def M.some' {α : Type} (f : Nat → M α) : M α := ⟨fun Q => ∃ n, (f n).run Q, fun h ⟨n, q⟩ => ⟨n, (f n).mono h q⟩⟩
theorem sv_while {c : TT} {tb : TS} {mc : Env → M Bool} {gb : Ev → M Ou} (hc : EvT S c mc) (hb : SvD S X tb gb) : SvD S X (tWhile c tb) (fun ρ => M.some' fun n => whileM mc gb n ρ) := fun B H0 G0 σ H ρ E r ⟨n, q⟩ => by
  refine ⟨fun m σ L => ∃ ρ, Rs S B H0 G0 σ L ρ ∧ (whileM mc gb m ρ).run (Fin S X B H0 G0 E), ⟨n, ρ, r, q⟩, ?_⟩
  rintro m σ L ⟨ρ, ⟨G, A, r⟩, q⟩
  cases m with
  | zero => exact q.elim
  | succ m =>
    obtain ⟨G1, k, er, c0, back⟩ := r.peek
    refine hc B σ L G1 (peek ρ) _ k er ((mc (peek ρ)).mono (fun b hb' L1 G2 k1 c1 => ?_) q)
    obtain ⟨G', r', _⟩ := back L1 G2 k1 c1
    cases b with
    | true =>
      refine ⟨fun σ' L' => ∃ ρ, Rs S B H0 G0 σ' L' ρ ∧ (whileM mc gb m ρ).run (Fin S X B H0 G0 E), fun σ' L' hh => ⟨m, Nat.lt_succ_self _, hh⟩, ?_⟩
      refine hb B H0 G0 σ L1 ρ _ ⟨G', A, r'⟩ ((gb ρ).mono (fun o ho => ?_) hb')
      cases o with
      | nx ρ2 => exact fun σ2 L2 r2 => ⟨ρ2, r2, ho⟩
      | ct ρ2 => exact fun σ2 L2 r2 => ⟨ρ2, r2, ho⟩
      | bk ρ2 => exact ho
      | rt d => exact ho
      | rl l => exact ho
      | er x => exact ho
    | false => exact (show ∀ σ H, Rs S B H0 G0 σ H ρ → E.nx σ H from hb') _ _ ⟨G', A, r'⟩
/-! ### a def -/
def startE (n : Nat) (ds : List D) : Ev := ds.map (fun d => some (.f d)) ++ List.replicate (n - ds.length) none
def outD (P : D → Prop) : Ou → Prop
  | .rt d => P d
  | .rl l => P (.lst l)
  | .nx _ => P .non
  | _ => False
def outL (P : List D → Prop) : Ou → Prop
  | .rl l => P l
  | _ => False
theorem start_rs {N : List Str} {H G : Hp} {vs : List V} {ds : List D} (k : Ok B H G) (r : RpA S B G vs ds) : Rs S B H G (L2.start N vs) H (startE N.length ds) := by
  refine ⟨G, fun _ => 0, fun b q e => ?_, k, Ch.refl, ?_, fun i d e => ?_, fun i s e w => ?_, fun i j s t e1 e2 w1 w2 => ?_⟩
  · obtain ⟨ns, i, r, kk, e1, e2, e3⟩ := k.bx b q e
    exact ⟨_, _, e1, e2⟩
  · unfold L2.start startE
    rw [List.length_append, List.length_append, List.length_map, List.length_map, List.length_replicate, List.length_replicate, r.length]
  · unfold startE at e
    unfold L2.start
    by_cases hi : i < ds.length
    · rw [List.getElem?_append_left (by rw [List.length_map]; exact hi), List.getElem?_map, List.getElem?_eq_getElem hi] at e
      injection e with e
      injection e with e
      injection e with e
      obtain ⟨v, h1, h2⟩ := r.get (i := i) (d := ds[i]) (List.getElem?_eq_getElem hi)
      rw [List.getElem?_append_left (by rw [List.length_map, r.length]; exact hi), List.getElem?_map, h1, ← e]
      exact ⟨v, rfl, h2⟩
    · rw [List.getElem?_append_right (by rw [List.length_map]; omega), List.getElem?_replicate] at e
      split at e <;> cases e
  · exfalso
    unfold startE at e
    by_cases hi : i < ds.length
    · rw [List.getElem?_append_left (by rw [List.length_map]; exact hi), List.getElem?_map, List.getElem?_eq_getElem hi] at e
      injection e with e
      injection e with e
      subst e
      cases w
    · rw [List.getElem?_append_right (by rw [List.length_map]; omega), List.getElem?_replicate] at e
      split at e <;> cases e
  · exfalso
    unfold startE at e1
    by_cases hi : i < ds.length
    · rw [List.getElem?_append_left (by rw [List.length_map]; exact hi), List.getElem?_map, List.getElem?_eq_getElem hi] at e1
      injection e1 with e1
      injection e1 with e1
      subst e1
      cases w1
    · rw [List.getElem?_append_right (by rw [List.length_map]; omega), List.getElem?_replicate] at e1
      split at e1 <;> cases e1
theorem run_D {N : List Str} {t : TS} {g : Ev → M Ou} {f : List D → M D} (h : SvD S X t g) (ref : ∀ ds P, (f ds).run P → (g (startE N.length ds)).run (outD P)) {vs : List V} {H : Hp} {Q : VK} {E : XK} (sp : spD S f vs H Q E) : t { nx := fun _ H' => Q .non H', rt := Q } (L2.start N vs) H := by
  obtain ⟨B, G, ds, k, r, q⟩ := sp
  refine h B H G _ H _ _ (start_rs k r) (M.mono _ (fun o ho => ?_) (ref ds _ q))
  cases o with
  | nx ρ => exact fun σ H' ⟨G', A, r'⟩ => (show Rs1 S B H G Q .non from ho) .non H' G' r'.ok r'.ch .non
  | rt d => exact ho
  | rl l => exact fun p xs H' G' a k' c b d r' => Rs1.frz k ho p xs H' G' a k' c b d r'
  | bk ρ => exact ho.elim
  | ct ρ => exact ho.elim
  | er x => exact ho.elim
theorem run_L {N : List Str} {t : TS} {g : Ev → M Ou} {f : List D → M (List D)} (h : SvD S X t g) (ref : ∀ ds P, (f ds).run P → (g (startE N.length ds)).run (outL P)) {vs : List V} {H : Hp} {Q : VK} {E : XK} (sp : spL S f vs H Q E) : t { nx := fun _ H' => Q .non H', rt := Q } (L2.start N vs) H := by
  obtain ⟨B, G, ds, k, r, q⟩ := sp
  refine h B H G _ H _ _ (start_rs k r) (M.mono _ (fun o ho => ?_) (ref ds _ q))
  cases o with
  | rl l => exact fun p xs H' G' a k' c b d r' => (show Rs2 S B H G Q l from ho) p xs H' G' a k' c b d r'
  | nx ρ => exact ho.elim
  | rt d => exact ho.elim
  | bk ρ => exact ho.elim
  | ct ρ => exact ho.elim
  | er x => exact ho.elim
end Dv
namespace Dv
open PySem PySem.Spec PyProof.Rows L2 Sg
variable {S : Base} {B : Bo S}
/-! ### ties as data -/
def kDd : Key → D
  | .inl i => .int i
  | .inr x => .str x
def tieD (k : Ks) : D := .tup (k.map kDd)
def lD (l : List Ks) : D := .lst (l.map tieD)
def mwD (n : Int) (As Ms : List Ks) : D := .tup [.int n, lD As, lD Ms]
theorem rp_key {G : Hp} (k : Key) : Rp S B G (kV k) (kDd k) := by
  cases k with
  | inl i => exact .int i
  | inr x => exact .str x
theorem rp_keys {G : Hp} : ∀ k : Ks, RpA S B G (k.map kV) (k.map kDd)
  | [] => .nil
  | a :: k => .cons (rp_key a) (rp_keys k)
theorem key_of {G : Hp} {v : V} {k : Key} (h : Rp S B G v (kDd k)) : v = kV k := by
  cases k with
  | inl i => cases h; rfl
  | inr x => cases h; rfl
theorem keys_of {G : Hp} : ∀ {xs : List V} {k : Ks}, RpA S B G xs (k.map kDd) → xs = k.map kV
  | _, [], h => by cases h; rfl
  | _, a :: k, h => by
    cases h with
    | cons h1 h2 => rw [key_of h1, keys_of h2]; rfl
theorem rp_tie {G : Hp} {a : Addr} {k : Ks} (h : SqT S.K G a (k.map kV)) : Rp S B G (.ref a) (tieD k) := .tup h (rp_keys k)
theorem tie_of {G : Hp} {v : V} {k : Ks} (h : Rp S B G v (tieD k)) : ∃ a, v = .ref a ∧ SqT S.K G a (k.map kV) := by
  cases h with
  | tup h r => rw [keys_of r] at h; exact ⟨_, rfl, h⟩
theorem tks_of {G : Hp} : ∀ {xs : List V} {l : List Ks}, RpA S B G xs (l.map tieD) → ∃ ks : List TK, xs = refs ks ∧ (∀ p ∈ ks, SqT S.K G p.1 (p.2.map kV)) ∧ ks.map (·.2) = l
  | _, [], h => by cases h; exact ⟨[], rfl, (fun p hp => nomatch hp), rfl⟩
  | _, k :: l, h => by
    cases h with
    | cons h1 h2 =>
      obtain ⟨a, rfl, ha⟩ := tie_of h1
      obtain ⟨ks, rfl, h3, h4⟩ := tks_of h2
      refine ⟨(a, k) :: ks, rfl, fun p hp => ?_, by rw [List.map_cons, h4]⟩
      rcases List.mem_cons.mp hp with rfl | hp
      · exact ha
      · exact h3 p hp
theorem rp_refs {G : Hp} : ∀ {U : List TK}, (∀ p ∈ U, SqT S.K G p.1 (p.2.map kV)) → RpA S B G (refs U) ((U.map (·.2)).map tieD)
  | [], _ => .nil
  | p :: U, h => .cons (rp_tie (h p (List.mem_cons_self ..))) (rp_refs fun q hq => h q (List.mem_cons_of_mem _ hq))
theorem list_of {G : Hp} {v : V} {l : List Ks} (h : Rp S B G v (lD l)) : ∃ a ks, v = .ref a ∧ G a = some (.lst (refs ks)) ∧ (∀ p ∈ ks, SqT S.K G p.1 (p.2.map kV)) ∧ ks.map (·.2) = l := by
  cases h with
  | lst h r =>
    obtain ⟨ks, rfl, h3, h4⟩ := tks_of r
    exact ⟨_, ks, rfl, h, h3, h4⟩
/-! ### what a call has made -/
def noTab : Option HO → Option HO
  | some (.tbl _) => none
  | o => o
theorem noTab_of {o u : HO} {x : Option HO} (h : noTab x = some u) : x = some u ∧ ∀ ps, u ≠ .tbl ps := by
  unfold noTab at h
  split at h
  · cases h
  · rename_i hn
    refine ⟨h, fun ps z => ?_⟩
    subst z
    exact hn ps h
theorem noTab_go {u : HO} (h : ∀ ps, u ≠ .tbl ps) : noTab (some u) = some u := by
  cases u <;> first | rfl | exact absurd rfl (h _)
def newG (H H' G : Hp) : Hp := fun a => match H a with
  | none => noTab (H' a)
  | some _ => G a
theorem newG_some {H H' G : Hp} {a : Addr} {o : HO} (h : H a = some o) : newG H H' G a = G a := by unfold newG; rw [h]
theorem newG_none {H H' G : Hp} {a : Addr} (h : H a = none) : newG H H' G a = noTab (H' a) := by unfold newG; rw [h]
theorem newG_ok {H H' G : Hp} (k : Ok B H G) (s : ∀ a o, (∀ q, B.bq ≠ some (a, q)) → (∀ ps, o ≠ .tbl ps) → H a = some o → H' a = some o) (fr : ∀ a, FrA H' a → FrA H a) (bx : ∀ b q, B.bq = some (b, q) → BxAt H' b q) (tb : LamX.Tabs S.T H') : Ok B H' (newG H H' G) ∧ Ch B H G H' (newG H H' G) := by
  refine ⟨⟨fun a o e => ?_, fun b q e => ?_, bx, tb, fun a ps e => ?_⟩, ⟨s, fr, fun a o e => ?_, fun a o e => ?_⟩⟩
  · cases h : H a with
    | none => rw [newG_none h] at e; exact (noTab_of (o := o) e).1
    | some u =>
      rw [newG_some h] at e
      refine s a o (fun q z => ?_) (fun ps z => ?_) (k.sub a o e)
      · rw [k.nm a q z] at e; cases e
      · subst z; exact k.nt a ps e
  · obtain ⟨o, ho⟩ := (k.bx b q e).some
    rw [newG_some ho]; exact k.nm b q e
  · cases h : H a with
    | none => rw [newG_none h] at e; exact (noTab_of (o := .tbl ps) e).2 ps rfl
    | some u => rw [newG_some h] at e; exact k.nt a ps e
  · rw [newG_some (k.sub a o e)]; exact e
  · cases h : H a with
    | none => exact .inr (FrA.of h)
    | some u => rw [newG_some h] at e; exact .inl e
theorem newG_same {H H' G : Hp} (k : Ok B H G) (s : Sub H H') : Ok B H' (newG H H' G) ∧ Ch B H G H' (newG H H' G) := newG_ok k (fun a o _ _ e => s a o e) (fun a e => FrA.sub s e) (fun b q e => (k.bx b q e).sub s) (tabs_sub s k.tb)
/-- nothing is made -/
theorem old_ok {H H' G : Hp} (k : Ok B H G) (s : ∀ a o, (∀ q, B.bq ≠ some (a, q)) → (∀ ps, o ≠ .tbl ps) → H a = some o → H' a = some o) (fr : ∀ a, FrA H' a → FrA H a) (bx : ∀ b q, B.bq = some (b, q) → BxAt H' b q) (tb : LamX.Tabs S.T H') : Ok B H' G ∧ Ch B H G H' G :=
  ⟨⟨fun a o e => s a o (fun q z => by rw [k.nm a q z] at e; cases e) (fun ps z => by subst z; exact k.nt a ps e) (k.sub a o e), k.nm, bx, tb, k.nt⟩, ⟨s, fr, Sub.refl G, fun _ _ e => .inl e⟩⟩
/-! ### depth, for _law_same -/
mutual
def D.deep : D → Nat
  | .lst l => deepL l + 1
  | .tup l => deepL l + 1
  | _ => 0
def deepL : List D → Nat
  | [] => 0
  | d :: l => max d.deep (deepL l)
end
mutual
/-- data that can be told apart by the law's own look: no webs, no dicts -/
def D.plain : D → Bool
  | .lst l => plainL l
  | .tup l => plainL l
  | .web _ _ _ => false
  | .dk _ => false
  | .dt _ => false
  | .box => false
  | _ => true
def plainL : List D → Bool
  | [] => true
  | d :: l => d.plain && plainL l
end
mutual
/-- no list or tuple is longer than that -/
def D.thin : D → Bool
  | .lst l => decide (l.length ≤ 100000) && thinL l
  | .tup l => decide (l.length ≤ 100000) && thinL l
  | _ => true
def thinL : List D → Bool
  | [] => true
  | d :: l => d.thin && thinL l
end
end Dv
namespace Dv
open PySem PySem.Spec PyProof.Rows L2 Sg
variable {S : Base} {B : Bo S} {X : XK}
def M.choose {α : Type} (p : α → Prop) : M α := ⟨fun Q => ∃ a, p a ∧ Q a, fun h ⟨a, pa, q⟩ => ⟨a, pa, h a q⟩⟩
/-! ### what may be refused -/
inductive Rx where
  | ok (d : D) | er (x : Exn)
def RsX (S : Base) (B : Bo S) (H G : Hp) (Q : VK) (X : XK) : Rx → Prop
  | .ok d => Rs1 S B H G Q d
  | .er x => RsE B H G X x
theorem RsX.after {H G H1 G1 : Hp} {Q : VK} {r : Rx} (c : Ch B H G H1 G1) (h : RsX S B H G Q X r) : RsX S B H1 G1 Q X r := by
  cases r with
  | ok d => exact Rs1.after c h
  | er x => exact RsE.after c h
def spX (S : Base) (f : List D → M Rx) : Sp := fun vs H Q X => ∃ B G ds, Ok B H G ∧ RpA S B G vs ds ∧ (f ds).run (RsX S B H G Q X)
def EvX (S : Base) (t : XK → TE) (m : Env → M Rx) : Prop := ∀ B σ H G ρ Q X, Ok B H G → Er S B G σ ρ → (m ρ).run (RsX S B H G Q X) → t X σ H Q
theorem ex_call {f : List D → M Rx} {t : TA} {m : Env → M (List D)} (h : EvA S t m) : EvX S (fun E => tCall (spX S f) [] E t) (fun ρ => M.bnd (m ρ) f) := fun B σ H G ρ Q X k er q =>
  h B σ H G ρ _ k er ((m ρ).mono (fun l hl vs H1 G1 k1 c1 r1 => ⟨B, G1, l, k1, by rw [List.append_nil]; exact r1, (f l).mono (fun z hz => hz.after c1) hl⟩) q)
theorem ex_of {te : TE} {m : Env → M D} (h : EvD S te m) : EvX S (fun _ => te) (fun ρ => M.bnd (m ρ) fun d => M.ret (.ok d)) := fun B σ H G ρ Q X k er q => h B σ H G ρ Q k er ((m ρ).mono (fun d hd => hd) q)
theorem ex_meth {f : List D → M Rx} {n : Str} {ta : TE} {ma : Env → M D} {t : TA} {m : Env → M (List D)} (hn : n ∉ (["places", "arrow_rows", "mark_rows", "onward", "backward"] : List Str)) (ho : EvD S ta ma) (h : EvA S t m) : EvX S (fun E => tMeth S.C n (spX S f) [] E ta t) (fun ρ => M.bnd (ma ρ) fun w => M.bnd (asW w) fun w => M.bnd (m ρ) fun l => f (w :: l)) := fun B σ H G ρ Q X k er q =>
  ho B σ H G ρ _ k er ((ma ρ).mono (fun d hd v H1 G1 k1 c1 r1 => by
    obtain ⟨n', As, Ms, rfl, hd⟩ := asW_run hd
    cases r1 with
    | web hw =>
      obtain ⟨dx, fs, h1, h2⟩ := S.ins hw
      refine ⟨_, dx, fs, rfl, k1.sub _ _ h1, h2 n hn, ?_⟩
      refine h B σ H1 G1 ρ _ k1 (er.mono c1.ext) ((m ρ).mono (fun l hl vs H2 G2 k2 c2 r2 => ⟨B, G2, _ :: l, k2, .cons (.web (S.mono c2.ext hw)) (by rw [List.append_nil]; exact r2), (f _).mono (fun z hz => hz.after (c1.trans c2)) hl⟩) hd)) q)
def ouX (ρ : Ev) : Rx → M Ou
  | .ok _ => M.ret (.nx ρ)
  | .er x => M.ret (.er x)
theorem sv_dropX {t : XK → TE} {m : Env → M Rx} (h : EvX S t m) : SvD S X (tDrop (t X)) (fun ρ => M.bnd (m (peek ρ)) (ouX ρ)) := fun B H0 G0 σ H ρ E ⟨G, A, r⟩ q => by
  obtain ⟨G1, k, er, c0, back⟩ := r.peek
  refine h B σ H G1 (peek ρ) _ X k er ((m (peek ρ)).mono (fun d hd => ?_) q)
  cases d with
  | ok d =>
    exact fun v H1 G2 k1 c1 r1 => by
      obtain ⟨G', r', _⟩ := back H1 G2 k1 c1
      exact (show ∀ σ H, Rs S B H0 G0 σ H ρ → E.nx σ H from hd) _ _ ⟨G', A, r'⟩
  | er x => exact fun dd H1 G2 k1 c1 n e => (show RsE B H0 G0 X x from hd) dd H1 G2 k1 (c0.trans c1) (c0.fr _ n) e
def ouR : Rx → M Ou
  | .ok d => M.ret (.rt d)
  | .er x => M.ret (.er x)
theorem sv_retX {t : XK → TE} {m : Env → M Rx} (h : EvX S t m) : SvD S X (tRet (t X)) (fun ρ => M.bnd (m (peek ρ)) ouR) := fun B H0 G0 σ H ρ E ⟨G, A, r⟩ q => by
  obtain ⟨G1, k, er, c0, back⟩ := r.peek
  refine h B σ H G1 (peek ρ) _ X k er ((m (peek ρ)).mono (fun d hd => ?_) q)
  cases d with
  | ok d => exact fun v H1 G2 k1 c1 r1 => (show ∀ v H G, Ok B H G → Ch B H0 G0 H G → Rp S B G v d → E.rt v H from hd) v H1 G2 k1 (c0.trans c1) r1
  | er x => exact fun dd H1 G2 k1 c1 n e => (show RsE B H0 G0 X x from hd) dd H1 G2 k1 (c0.trans c1) (c0.fr _ n) e
def ouS (ρ : Ev) (i : Nat) : Rx → M Ou
  | .ok d => M.ret (.nx (ρ.set i (some (.f d))))
  | .er x => M.ret (.er x)
theorem sv_asgX {t : XK → TE} {m : Env → M Rx} {i : Nat} (h : EvX S t m) : SvD S X (tAsg (t X) (gName i)) (fun ρ => M.bnd (m (mask ρ)) (ouS ρ i)) := fun B H0 G0 σ H ρ E ⟨G, A, r⟩ q =>
  h B σ H G (mask ρ) _ X r.ok r.mask ((m (mask ρ)).mono (fun d hd => by
    cases d with
    | ok d => exact fun v H1 G1 k1 c1 r1 => (show ∀ σ H, Rs S B H0 G0 σ H (ρ.set i (some (.f d))) → E.nx σ H from hd) _ _ ⟨G1, A, (r.step k1 c1).set r1 i⟩
    | er x => exact fun dd H1 G2 k1 c1 n e => (show RsE B H0 G0 X x from hd) dd H1 G2 k1 (r.ch.trans c1) (r.ch.fr _ n) e) q)
def outX (P : Rx → Prop) : Ou → Prop
  | .rt d => P (.ok d)
  | .rl l => P (.ok (.lst l))
  | .nx _ => P (.ok .non)
  | .er x => P (.er x)
  | _ => False
theorem run_X {N : List Str} {t : TS} {g : Ev → M Ou} {f : List D → M Rx} (h : SvD S X t g) (ref : ∀ ds P, (f ds).run P → (g (startE N.length ds)).run (outX P)) {vs : List V} {H : Hp} {Q : VK} (sp : spX S f vs H Q X) : t { nx := fun _ H' => Q .non H', rt := Q } (L2.start N vs) H := by
  obtain ⟨B, G, ds, k, r, q⟩ := sp
  refine h B H G _ H _ _ (start_rs k r) (M.mono _ (fun o ho => ?_) (ref ds _ q))
  cases o with
  | nx ρ => exact fun σ H' ⟨G', A, r'⟩ => (show Rs1 S B H G Q .non from ho) .non H' G' r'.ok r'.ch .non
  | rt d => exact ho
  | rl l => exact fun p xs H' G' a k' c b d r' => Rs1.frz k (show Rs1 S B H G Q (.lst l) from ho) p xs H' G' a k' c b d r'
  | er x => exact ho
  | bk ρ => exact ho.elim
  | ct ρ => exact ho.elim
/-- a call by names -/
theorem ex_callN {f : List D → M Rx} {n k' : Nat} {gV : List V → List V → List V} {gD : List D → List D → List D} {t tk : TA} {m mk : Env → M (List D)} (hg : ∀ {B : Bo S} {G : Hp} {vs zs : List V} {ds es : List D}, RpA S B G vs ds → RpA S B G zs es → ds.length = n → es.length = k' → RpA S B G (gV vs zs) (gD ds es)) (h : EvA S t m) (hk : EvA S tk mk) : EvX S (fun E => tCallN n k' (spX S f) gV E t tk) (fun ρ => M.bnd (m ρ) fun l => M.bnd (mk ρ) fun z => M.bnd (M.req (l.length = n ∧ z.length = k')) fun _ => f (gD l z)) := fun B σ H G ρ Q X k er q =>
  h B σ H G ρ _ k er ((m ρ).mono (fun l hl vs H1 G1 k1 c1 r1 => hk B σ H1 G1 ρ _ k1 (er.mono c1.ext) ((mk ρ).mono (fun z hz zs H2 G2 k2 c2 r2 => ⟨by rw [r1.length]; exact hz.1.1, by rw [r2.length]; exact hz.1.2, B, G2, _, k2, hg (r1.mono c2.ext) r2 hz.1.1 hz.1.2, (f _).mono (fun y hy => hy.after (c1.trans c2)) hz.2⟩) hl)) q)
theorem ed_callN {f : List D → M D} {E : XK} {n k' : Nat} {gV : List V → List V → List V} {gD : List D → List D → List D} {t tk : TA} {m mk : Env → M (List D)} (hg : ∀ {B : Bo S} {G : Hp} {vs zs : List V} {ds es : List D}, RpA S B G vs ds → RpA S B G zs es → ds.length = n → es.length = k' → RpA S B G (gV vs zs) (gD ds es)) (h : EvA S t m) (hk : EvA S tk mk) : EvD S (tCallN n k' (spD S f) gV E t tk) (fun ρ => M.bnd (m ρ) fun l => M.bnd (mk ρ) fun z => M.bnd (M.req (l.length = n ∧ z.length = k')) fun _ => f (gD l z)) := fun B σ H G ρ Q k er q =>
  h B σ H G ρ _ k er ((m ρ).mono (fun l hl vs H1 G1 k1 c1 r1 => hk B σ H1 G1 ρ _ k1 (er.mono c1.ext) ((mk ρ).mono (fun z hz zs H2 G2 k2 c2 r2 => ⟨by rw [r1.length]; exact hz.1.1, by rw [r2.length]; exact hz.1.2, B, G2, _, k2, hg (r1.mono c2.ext) r2 hz.1.1 hz.1.2, (f _).mono (fun y hy => hy.after (c1.trans c2)) hz.2⟩) hl)) q)
/-! ### reckoning with what comes out -/
theorem M.sel_map {α β : Type} {f : α → M (Option β)} {R : α → β → Prop} : ∀ {l : List α}, (∀ a ∈ l, (f a).run fun o => ∃ b, o = some b ∧ R a b) → (M.sel f l).run (Paired R l)
  | [], _ => .nil
  | a :: l, h => (f a).mono (fun o ⟨b, e, hb⟩ => by
      subst e
      exact (M.sel f l).mono (fun bs hbs => .cons hb hbs) (M.sel_map fun x hx => h x (List.mem_cons_of_mem _ hx))) (h a (List.mem_cons_self ..))
/-- what is told of each, whether it is taken or not -/
theorem M.sel_flt {α β : Type} {f : α → M (Option β)} {p : α → Bool} {g : α → β} : ∀ {l : List α}, (∀ a ∈ l, (f a).run fun o => o = if p a = true then some (g a) else none) → (M.sel f l).run fun bs => bs = (l.filter p).map g
  | [], _ => rfl
  | a :: l, h => (f a).mono (fun o e => by
      refine (M.sel f l).mono (fun bs hbs => ?_) (M.sel_flt fun x hx => h x (List.mem_cons_of_mem _ hx))
      subst e hbs
      rw [List.filter_cons]
      cases p a <;> rfl) (h a (List.mem_cons_self ..))
theorem Paired.right {α β : Type} {R : α → β → Prop} {P : β → Prop} (h : ∀ a b, R a b → P b) : ∀ {l : List α} {m : List β}, Paired R l m → ∀ b ∈ m, P b
  | _, _, .nil => fun b hb => nomatch hb
  | _, _, .cons r t => fun b hb => (List.mem_cons.mp hb).elim (fun e => by subst e; exact h _ _ r) (Paired.right h t b)
theorem M.run_mono {α : Type} {m : M α} {P Q : α → Prop} (h : m.run P) (k : ∀ a, P a → Q a) : m.run Q := m.mono k h
end Dv
namespace Dv
open PySem PySem.Spec PyProof.Rows L2 RZ Sg Tm Wb
def WD (K : PySem.W.Frag) (C : Addr) (H : Hp) (x : Addr) (n : Int) (As Ms : List Ks) : Prop := ∃ U V, WX K C H x n U V ∧ U.map (·.2) = As ∧ V.map (·.2) = Ms
abbrev mkS (K : PySem.W.Frag) (C : Addr) (T : List (Addr × Str)) (cls : Str → Addr) : Base where
  K := K
  C := C
  T := T
  cls := cls
  W := WD K C
  mono := fun s ⟨U, V, h, a, b⟩ => ⟨U, V, h.same s, a, b⟩
  ins := fun ⟨U, V, h, _, _⟩ => by
    obtain ⟨dx, pl, ar, mr, ow, bw, h1, _⟩ := h.w.ex
    refine ⟨dx, _, h1, fun m hm => ?_⟩
    simp only [List.mem_cons, List.not_mem_nil, or_false, not_or] at hm
    obtain ⟨e1, e2, e3, e4, e5⟩ := hm
    rw [flds_eq]
    simp only [List.lookup, beq_eq_false_iff_ne.mpr e1, beq_eq_false_iff_ne.mpr e2, beq_eq_false_iff_ne.mpr e3, beq_eq_false_iff_ne.mpr e4, beq_eq_false_iff_ne.mpr e5]
section
variable {P : Program} {w : World} {K : PySem.W.Frag} {mg : Str → Option Value} {base : Heap} {C : Addr} {T : List (Addr × Str)} {cls : Str → Addr}
theorem Df.to {k : Nat} {x : Str} {ps : List Str} {sp sp' : Sp} {f : Addr} {fd : FuncData} (d : Df P w K mg base k x ps sp f fd) (h : ∀ vs H Q E, sp' vs H Q E → sp vs H Q E) : Df P w K mg base k x ps sp' f fd := ⟨d.ok.imp h, d.gl, d.kp, d.bd⟩
theorem box_ok {S : Base} {B : Bo S} {H H' G : Hp} {b q : Addr} (k : Ok B H G) (e : B.bq = some (b, q)) (hb : Bx H' b q) (kp : Kp b H H') : Ok B H' G ∧ Ch B H G H' G := by
  have ne : ∀ {a}, (∀ q, B.bq ≠ some (a, q)) → a ≠ b := fun {a} n z => n q (by rw [z]; exact e)
  refine old_ok k (fun a o n _ h => by rw [kp a (ne n)]; exact h) (fun a h => ?_) (fun b' q' e' => ?_) ?_
  · by_cases z : a = b
    · subst z
      obtain ⟨ns, i, r, kk, e1, _⟩ := hb
      obtain ⟨ps, e2⟩ := h _ e1
      cases e2
    · exact fun o e => h o (by rw [kp a z]; exact e)
  · rw [e] at e'
    cases e'
    exact hb
  · obtain ⟨ns, i, r, kk, e1, _⟩ := k.bx b q e
    exact tabs_but e1 (fun c o n h => by rw [kp c n]; exact h) k.tb
def takeM : List D → M D
  | [.box, .int n] => M.bnd (M.req (0 < n ∧ n < 2 ^ 100)) fun _ => M.bnd (M.all fun v : Int => 0 ≤ v ∧ v < n) fun v => M.ret (.int v)
  | _ => M.fail
theorem sp_take {vs : List V} {H : Hp} {Q : VK} {E : XK} (h : spD (mkS K C T cls) takeM vs H Q E) : spTake vs H Q E := by
  obtain ⟨B, G, ds, k, r, h⟩ := h
  unfold takeM at h
  split at h
  · cases r with
    | cons r1 r2 =>
      cases r1 with
      | box e =>
        cases r2 with
        | cons r2 r3 =>
          cases r2
          cases r3
          refine ⟨_, _, _, rfl, k.bx _ _ e, h.1.1, h.1.2, fun v H' v0 v1 hb kp => ?_⟩
          obtain ⟨k1, c1⟩ := box_ok k e hb kp
          exact (show Rs1 _ B H G Q (.int v) from h.2 v ⟨v0, v1⟩) _ H' G k1 c1 (.int v)
  · exact h.elim
def oneM : List D → M D
  | [.box, .lst ds] => M.bnd (M.req (ds ≠ [] ∧ ds.length ≤ 1000)) fun _ => M.all fun d => d ∈ ds
  | [.box, .str z] => M.bnd (M.req (0 < z.length ∧ z.length ≤ 1000)) fun _ => M.bnd (M.all fun c => c ∈ z.cps.toList) fun c => M.ret (.str ⟨#[c]⟩)
  | _ => M.fail
theorem sp_one {vs : List V} {H : Hp} {Q : VK} {E : XK} (h : spD (mkS K C T cls) oneM vs H Q E) : spOne K vs H Q E := by
  obtain ⟨B, G, ds, k, r, h⟩ := h
  unfold oneM at h
  split at h
  · cases r with
    | cons r1 r2 =>
      cases r1 with
      | box e =>
        cases r2 with
        | cons r2 r3 =>
          cases r3
          cases r2 with
          | lst ha hr =>
            refine .inl ⟨_, _, _, _, rfl, k.bx _ _ e, SqL.of (k.sub _ _ ha), fun z => ?_, fun z => h.1.1 ?_, by rw [hr.length]; exact h.1.2, fun v H' hv hb kp => ?_⟩
            · rw [z, k.nm _ _ e] at ha; cases ha
            · rw [z] at hr; cases hr; rfl
            · obtain ⟨k1, c1⟩ := box_ok k e hb kp
              obtain ⟨i, hi⟩ := List.getElem?_of_mem hv
              obtain ⟨d, h1, h2⟩ := hr.getV hi
              exact (show Rs1 _ B H G Q d from h.2 d (List.mem_of_getElem? h1)) _ H' G k1 c1 h2
  · cases r with
    | cons r1 r2 =>
      cases r1 with
      | box e =>
        cases r2 with
        | cons r2 r3 =>
          cases r3
          cases r2
          refine .inr ⟨_, _, _, rfl, k.bx _ _ e, h.1.1, h.1.2, fun c H' hc hb kp => ?_⟩
          obtain ⟨k1, c1⟩ := box_ok k e hb kp
          exact (show Rs1 _ B H G Q _ from h.2 c hc) _ H' G k1 c1 (.str _)
  · exact h.elim
/-! ### ties sorted, each once -/
structure SrtK (l u : List Ks) : Prop where
  of : ∀ k ∈ u, k ∈ l
  all : ∀ k ∈ l, k ∈ u
  nd : u.Nodup
  ris : u.Pairwise fun p q => TS.code 128 (p.map numK) ≤ TS.code 128 (q.map numK)
theorem srtK_of {ks U : List TK} (h : Srt ks U) : SrtK (ks.map (·.2)) (U.map (·.2)) := by
  refine ⟨fun k hk => ?_, fun k hk => ?_, h.nd, ?_⟩
  · obtain ⟨p, hp, rfl⟩ := List.mem_map.mp hk
    exact List.mem_map.mpr ⟨p, h.of p hp, rfl⟩
  · obtain ⟨p, hp, rfl⟩ := List.mem_map.mp hk
    exact h.all p hp
  · rw [List.pairwise_map]
    exact h.ris
def unlM : List D → M (List D)
  | [.lst es] => M.bnd (M.choose fun l : List Ks => es = l.map tieD ∧ (∃ d, ∀ k ∈ l, TieK 128 d k) ∧ l.length < 64) fun l => M.bnd (M.all fun u => SrtK l u) fun u => M.ret (u.map tieD)
  | _ => M.fail
theorem sp_unl {vs : List V} {H : Hp} {Q : VK} {E : XK} (h : spL (mkS K C T cls) unlM vs H Q E) : spUnl K vs H Q E := by
  obtain ⟨B, G, ds, k, r, h⟩ := h
  unfold unlM at h
  split at h
  · obtain ⟨l, ⟨rfl, ⟨d, hd⟩, h64⟩, h⟩ := h
    cases r with
    | cons r1 r2 =>
      cases r2
      obtain ⟨a, ks, rfl, h1, h2, h3⟩ := list_of (l := l) r1
      subst h3
      refine ⟨a, ks, d, rfl, k.sub _ _ h1, fun p hp => sub_tup k.sub (h2 p hp), fun p hp => hd _ (List.mem_map.mpr ⟨p, hp, rfl⟩), by rw [List.length_map] at h64; exact h64, fun p U H' np hp hs sm => ?_⟩
      obtain ⟨k1, c1⟩ := old_ok k (fun a o _ _ e => sm a o e) (fun a e => FrA.sub (show Sub H H' from sm) e) (fun b q e => (k.bx b q e).sub sm) (tabs_sub sm k.tb)
      exact (show Rs2 _ B H G Q ((U.map (·.2)).map tieD) from h _ (srtK_of hs)) p _ H' G (FrA.of np) k1 c1 hp (k.sub.free np) (rp_refs fun z hz => h2 z (hs.of z hz))
  · exact h.elim
/-! ### a web made -/
def GoodW (n : Int) (As Ms : List Ks) : Prop := 0 ≤ n ∧ n ≤ 81 ∧ (∀ k ∈ As, AK n k) ∧ (∀ k ∈ Ms, MK n k) ∧ As.length < 64 ∧ Ms.length < 64
def mkM (n : Int) (es fs : List D) : M D :=
  M.bnd (M.choose fun p : List Ks × List Ks => es = p.1.map tieD ∧ fs = p.2.map tieD ∧ GoodW n p.1 p.2) fun p => M.bnd (M.all fun u : List Ks × List Ks => SrtK p.1 u.1 ∧ SrtK p.2 u.2) fun u => M.ret (.web n u.1 u.2)
theorem mk_D {S : Base} (hS : S = mkS K C T cls) {B : Bo S} {H G : Hp} (k : Ok B H G) {Q : VK} {n : Int} {es fs : List D} (h : (mkM n es fs).run (Rs1 S B H G Q)) {va vm : V} (ra : Rp S B G va (.lst es)) (rm : Rp S B G vm (.lst fs)) {x dx : Addr} (nx : H x = none) (ndx : H dx = none) (ne : dx ≠ x) {E : XK} : spInit K C [.ref x, .int n, va, vm] (upd (upd H dx (.own x)) x (.ins C dx [])) (fun v H3 => v = .non ∧ Q (.ref x) H3) E := by
  subst hS
  obtain ⟨⟨la, lm⟩, ⟨rfl, rfl, h0, h1, gA, gM, l1, l2⟩, h⟩ := h
  obtain ⟨a, ka, rfl, e1, e2, rfl⟩ := list_of (l := la) ra
  obtain ⟨m, km, rfl, f1, f2, rfl⟩ := list_of (l := lm) rm
  have gA' : ∀ p ∈ ka, AK n p.2 := fun p hp => gA _ (List.mem_map.mpr ⟨p, hp, rfl⟩)
  have gM' : ∀ p ∈ km, MK n p.2 := fun p hp => gM _ (List.mem_map.mpr ⟨p, hp, rfl⟩)
  rw [List.length_map] at l1 l2
  refine mk_use nx ndx ne h0 h1 ⟨.inl (SqL.of (k.sub _ _ e1)), fun p hp => sub_tup k.sub (e2 p hp)⟩ gA' l1 ⟨.inl (SqL.of (k.sub _ _ f1)), fun p hp => sub_tup k.sub (f2 p hp)⟩ gM' l2 fun J' As Ms W sA sM sm => ?_
  obtain ⟨k1, c1⟩ := newG_same k (show Sub H J' from sm)
  have w1 : WebAt C (fun a => match H a with | none => J' a | some _ => newG H J' G a) x n As Ms := W _ fun c o hc he => by
    show (match H c with | none => J' c | some _ => _) = _
    rw [hc]; exact he
  have w2 : WebAt C (newG H J' G) x n As Ms := w1.extN fun b o hb hn => by
    cases hh : H b with
    | none =>
      simp only [hh] at hb
      rw [newG_none hh, hb]
      exact noTab_go hn
    | some u =>
      simp only [hh] at hb
      exact hb
  have b1 := sA.len
  have b2 := sM.len
  exact (show Rs1 _ B H G Q (.web n (As.map (·.2)) (Ms.map (·.2))) from h (As.map (fun p : TK => p.2), Ms.map (fun p : TK => p.2)) ⟨srtK_of sA, srtK_of sM⟩) _ J' _ k1 c1 (.web ⟨As, Ms, ⟨w2, fun z hz => sub_tup c1.ext (e2 z (sA.of z hz)), fun z hz => sub_tup c1.ext (f2 z (sM.of z hz)), fun z hz => gA' z (sA.of z hz), fun z hz => gM' z (sM.of z hz), by omega, by omega, h0, h1⟩, rfl, rfl⟩)
def mk2 : List D → List D → M D
  | [.int n], [.lst es, .lst fs] => mkM n es fs
  | _, _ => M.fail
/-- Web(n, arrows=.., marks=..) -/
theorem ed_mk2 {E : XK} {t tk : TA} {m mk : Env → M (List D)} (h : EvA (mkS K C T cls) t m) (hk : EvA (mkS K C T cls) tk mk) : EvD (mkS K C T cls) (tMakeK C 1 (["arrows", "marks"] : List Str).length (spInit K C) (fun vs zs => g2 vs [] zs) E t tk) (fun ρ => M.bnd (m ρ) fun l => M.bnd (mk ρ) fun z => mk2 l z) := fun B σ H G ρ Q k er q =>
  h B σ H G ρ _ k er ((m ρ).mono (fun l hl vs H1 G1 k1 c1 r1 => hk B σ H1 G1 ρ _ k1 (er.mono c1.ext) ((mk ρ).mono (fun z hz zs H2 G2 k2 c2 r2 => by
    have hz : (mk2 l z).run (Rs1 (mkS K C T cls) B H G Q) := hz
    unfold mk2 at hz
    split at hz
    · have r1' := r1.mono c2.ext
      cases r1' with
      | cons a b =>
        cases a
        cases b
        cases r2 with
        | cons a b =>
          cases b with
          | cons b c =>
            cases c
            exact ⟨rfl, rfl, fun x dx nx ndx ne => mk_D rfl k2 (M.mono _ (fun y hy => Rs1.after (c1.trans c2) hy) hz) a b nx ndx ne⟩
    · exact hz.elim) hl)) q)
/-! ### what a web tells -/
def ptsM : List D → M D
  | [.web n _ _] => M.ret (.int n)
  | _ => M.fail
def arrM : List D → M (List D)
  | [.web _ As _] => M.ret (As.map tieD)
  | _ => M.fail
def mrkM : List D → M (List D)
  | [.web _ _ Ms] => M.ret (Ms.map tieD)
  | _ => M.fail
theorem sp_pts {vs : List V} {H : Hp} {Q : VK} {E : XK} (h : spD (mkS K C T cls) ptsM vs H Q E) : spPts C vs H Q E := by
  obtain ⟨B, G, ds, k, r, h⟩ := h
  unfold ptsM at h
  split at h
  · cases r with
    | cons r1 r2 =>
      cases r2
      cases r1 with
      | web hw =>
        obtain ⟨U, V, w, e1, e2⟩ := hw
        exact ⟨_, _, U, V, rfl, (w.same k.sub).w, w.n0, Rs1.now k h (.int _)⟩
  · exact h.elim
theorem sp_arr {vs : List V} {H : Hp} {Q : VK} {E : XK} (h : spL (mkS K C T cls) arrM vs H Q E) : spArr C vs H Q E := by
  obtain ⟨B, G, ds, k, r, h⟩ := h
  unfold arrM at h
  split at h
  · cases r with
    | cons r1 r2 =>
      cases r2
      cases r1 with
      | web hw =>
        obtain ⟨U, V, w, rfl, e2⟩ := hw
        exact ⟨_, _, U, V, rfl, (w.same k.sub).w, fun p hp => Rs2.lay k h (rp_refs w.qa) hp⟩
  · exact h.elim
theorem sp_mrk {vs : List V} {H : Hp} {Q : VK} {E : XK} (h : spL (mkS K C T cls) mrkM vs H Q E) : spMrk C vs H Q E := by
  obtain ⟨B, G, ds, k, r, h⟩ := h
  unfold mrkM at h
  split at h
  · cases r with
    | cons r1 r2 =>
      cases r2
      cases r1 with
      | web hw =>
        obtain ⟨U, V, w, e1, rfl⟩ := hw
        exact ⟨_, _, U, V, rfl, (w.same k.sub).w, fun p hp => Rs2.lay k h (rp_refs w.qm) hp⟩
  · exact h.elim
/-! ### the law's own look -/
theorem sv_plain {S : Base} {B : Bo S} {G H : Hp} (s : Sub G H) (hK : S.K = K) : ∀ (n : Nat) {v u : V} {d : D}, d.deep ≤ n → d.plain = true → d.thin = true → Rp S B G v d → Rp S B G u d → Sv K H n v u := by
  subst hK
  intro n
  induction n with
  | zero =>
    intro v u d h1 h2 h3 r1 r2
    cases r1 <;> cases r2 <;> first
      | exact ⟨rfl, rfl⟩
      | cases h2
      | (simp only [D.deep] at h1; omega)
  | succ n ih =>
    intro v u d h1 h2 h3 r1 r2
    have all : ∀ {xs ys : List V} {ds : List D}, deepL ds ≤ n → plainL ds = true → thinL ds = true → RpA S B G xs ds → RpA S B G ys ds → Paired (Sv S.K H n) xs ys := by
      intro xs ys ds
      induction ds generalizing xs ys with
      | nil => intro _ _ _ a b; cases a; cases b; exact .nil
      | cons d ds ih2 =>
        intro g1 g2 g3 a b
        simp only [deepL, plainL, thinL, Bool.and_eq_true] at g1 g2 g3
        cases a with
        | cons a1 a2 =>
          cases b with
          | cons b1 b2 => exact .cons (ih (by omega) g2.1 g3.1 a1 b1) (ih2 (by omega) g2.2 g3.2 a2 b2)
    cases r1 with
    | lst ha hr =>
      cases r2 with
      | lst hb hs =>
        simp only [D.deep, D.plain, D.thin, Bool.and_eq_true, decide_eq_true_eq] at h1 h2 h3
        exact .inr ⟨_, _, _, _, rfl, rfl, .inl ⟨SqL.of (s _ _ ha), SqL.of (s _ _ hb)⟩, by rw [hr.length]; exact h3.1, all (by omega) h2 h3.2 hr hs⟩
    | tup ha hr =>
      cases r2 with
      | tup hb hs =>
        simp only [D.deep, D.plain, D.thin, Bool.and_eq_true, decide_eq_true_eq] at h1 h2 h3
        exact .inr ⟨_, _, _, _, rfl, rfl, .inr ⟨sub_tup s ha, sub_tup s hb⟩, by rw [hr.length]; exact h3.1, all (by omega) h2 h3.2 hr hs⟩
    | non => cases r2; exact .inl ⟨rfl, rfl⟩
    | bl b => cases r2; exact .inl ⟨rfl, rfl⟩
    | int i => cases r2; exact .inl ⟨rfl, rfl⟩
    | str x => cases r2; exact .inl ⟨rfl, rfl⟩
    | web _ => cases h2
    | dk _ _ _ => cases h2
    | dt _ _ _ => cases h2
    | box _ => cases h2
def sameM (n : Nat) : List D → M D
  | [x, y] => M.bnd (M.req (x = y ∧ y.deep ≤ n ∧ y.plain = true ∧ y.thin = true)) fun _ => M.ret (.bl true)
  | _ => M.fail
theorem sp_same {n : Nat} {vs : List V} {H : Hp} {Q : VK} {E : XK} (h : spD (mkS K C T cls) (sameM n) vs H Q E) : spSame K n vs H Q E := by
  obtain ⟨B, G, ds, k, r, h⟩ := h
  unfold sameM at h
  split at h
  · cases r with
    | cons r1 r2 =>
      cases r2 with
      | cons r2 r3 =>
        cases r3
        obtain ⟨rfl, h1, h2, h3⟩ := h.1
        refine ⟨_, _, rfl, sv_plain k.sub rfl n h1 h2 h3 r1 r2, fun H' sm => ?_⟩
        obtain ⟨k1, c1⟩ := old_ok k (fun a o _ _ e => sm a o e) (fun a e => FrA.sub (show Sub H H' from sm) e) (fun b q e => (k.bx b q e).sub sm) (tabs_sub sm k.tb)
        exact (show Rs1 _ B H G Q (.bl true) from h.2) _ H' G k1 c1 (.bl true)
  · exact h.elim
end
end Dv
namespace Dv
open PySem PySem.Spec PyProof.Rows L2 Sg
/-! ### reading what comes out, by rewriting -/
section
variable {α β : Type}
theorem run_bnd (m : M α) (f : α → M β) (Q : β → Prop) : (M.bnd m f).run Q = m.run fun a => (f a).run Q := rfl
theorem run_ret (a : α) (Q : α → Prop) : (M.ret a).run Q = Q a := rfl
theorem run_opt (a : α) (Q : α → Prop) : (M.opt (some a)).run Q = Q a := rfl
theorem run_req (p : Prop) (Q : Unit → Prop) : (M.req p).run Q = (p ∧ Q ()) := rfl
theorem run_all (p : α → Prop) (Q : α → Prop) : (M.all p).run Q = ∀ a, p a → Q a := rfl
theorem run_choose (p : α → Prop) (Q : α → Prop) : (M.choose p).run Q = ∃ a, p a ∧ Q a := rfl
theorem run_ite (c : Prop) [Decidable c] (m n : M α) (Q : α → Prop) : (if c then m else n).run Q = if c then m.run Q else n.run Q := by split <;> rfl
end
theorem then_nx (g : Ev → M Ou) (ρ : Ev) : thenM g (.nx ρ) = g ρ := rfl
theorem then_rt (g : Ev → M Ou) (d : D) : thenM g (.rt d) = M.ret (.rt d) := rfl
theorem then_rl (g : Ev → M Ou) (l : List D) : thenM g (.rl l) = M.ret (.rl l) := rfl
theorem then_er (g : Ev → M Ou) (x : Exn) : thenM g (.er x) = M.ret (.er x) := rfl
theorem then_ct (g : Ev → M Ou) (ρ : Ev) : thenM g (.ct ρ) = M.ret (.ct ρ) := rfl
theorem then_bk (g : Ev → M Ou) (ρ : Ev) : thenM g (.bk ρ) = M.ret (.bk ρ) := rfl
theorem outD_rt (P : D → Prop) (d : D) : outD P (.rt d) = P d := rfl
theorem outD_rl (P : D → Prop) (l : List D) : outD P (.rl l) = P (.lst l) := rfl
theorem outD_nx (P : D → Prop) (ρ : Ev) : outD P (.nx ρ) = P .non := rfl
theorem outL_rl (P : List D → Prop) (l : List D) : outL P (.rl l) = P l := rfl
theorem outX_rt (P : Rx → Prop) (d : D) : outX P (.rt d) = P (.ok d) := rfl
theorem outX_rl (P : Rx → Prop) (l : List D) : outX P (.rl l) = P (.ok (.lst l)) := rfl
theorem outX_nx (P : Rx → Prop) (ρ : Ev) : outX P (.nx ρ) = P (.ok .non) := rfl
theorem outX_er (P : Rx → Prop) (x : Exn) : outX P (.er x) = P (.er x) := rfl
def pk (s : Option Sl) : Option D := s.map Sl.data
def mk0 (s : Option Sl) : Option D := s.bind fun s => match s with | .f d => some d | _ => none
theorem mask_nil : mask [] = [] := rfl
theorem mask_cons (s : Option Sl) (ρ : Ev) : mask (s :: ρ) = mk0 s :: mask ρ := rfl
theorem mk0_f (d : D) : mk0 (some (.f d)) = some d := rfl
theorem mk0_o (l : List D) : mk0 (some (.o l)) = none := rfl
theorem mk0_od (l : List (Key × D)) : mk0 (some (.od l)) = none := rfl
theorem mk0_ot (l : List (Ks × D)) : mk0 (some (.ot l)) = none := rfl
theorem mk0_n : mk0 none = none := rfl
theorem peek_nil : peek [] = [] := rfl
theorem peek_cons (s : Option Sl) (ρ : Ev) : peek (s :: ρ) = pk s :: peek ρ := rfl
theorem pk_f (d : D) : pk (some (.f d)) = some d := rfl
theorem pk_o (l : List D) : pk (some (.o l)) = some (.lst l) := rfl
theorem pk_od (l : List (Key × D)) : pk (some (.od l)) = some (.dk l) := rfl
theorem pk_ot (l : List (Ks × D)) : pk (some (.ot l)) = some (.dt l) := rfl
theorem pk_n : pk none = none := rfl
theorem dOf_int (i : Int) : dOf (.int i) = some (.int i) := rfl
theorem dOf_bl (b : Bool) : dOf (.bl b) = some (.bl b) := rfl
theorem dOf_str (x : Str) : dOf (.str x) = some (.str x) := rfl
theorem dOf_non : dOf .non = some .non := rfl
theorem opI0_int (g : Int → Int → V) (i j : Int) : opI0 g (.int i) (.int j) = M.opt (dOf (g i j)) := rfl
theorem opI_int (C : Int → Int → Prop) (g : Int → Int → V) (i j : Int) : opI C g (.int i) (.int j) = M.bnd (M.req (C i j)) fun _ => M.opt (dOf (g i j)) := rfl
theorem unI_int (g : Int → V) (i : Int) : unI g (.int i) = M.opt (dOf (g i)) := rfl
theorem asB_bl (b : Bool) : asB (.bl b) = M.ret b := rfl
theorem asI_int (i : Int) : asI (.int i) = M.ret i := rfl
theorem asL_lst (l : List D) : asL (.lst l) = M.ret l := rfl
theorem asT_tup (l : List D) : asT (.tup l) = M.ret l := rfl
theorem asW_web (n : Int) (As Ms : List Ks) : asW (.web n As Ms) = M.ret (.web n As Ms) := rfl
theorem eqS_int (i j : Int) : eqS (.int i) (.int j) = M.ret (decide (i = j)) := by
  unfold eqS vOf eqO
  show (⟨_, _⟩ : M Bool) = ⟨_, _⟩
  congr 1
  funext Q
  show (scal (.int i) (.int j) = true ∧ Q (decide (V.int i = V.int j))) = Q (decide (i = j))
  have : decide (V.int i = V.int j) = decide (i = j) := by
    rw [Bool.eq_iff_iff, decide_eq_true_eq, decide_eq_true_eq]
    exact ⟨V.int.inj, fun h => by rw [h]⟩
  rw [this]
  exact propext ⟨fun h => h.2, fun h => ⟨rfl, h⟩⟩
theorem eqS_str (i j : Str) : eqS (.str i) (.str j) = M.ret (decide (i = j)) := by
  unfold eqS vOf eqO
  show (⟨_, _⟩ : M Bool) = ⟨_, _⟩
  congr 1
  funext Q
  show (scal (.str i) (.str j) = true ∧ Q (decide (V.str i = V.str j))) = Q (decide (i = j))
  have : decide (V.str i = V.str j) = decide (i = j) := by
    rw [Bool.eq_iff_iff, decide_eq_true_eq, decide_eq_true_eq]
    exact ⟨V.str.inj, fun h => by rw [h]⟩
  rw [this]
  exact propext ⟨fun h => h.2, fun h => ⟨rfl, h⟩⟩
theorem ixL_lst (l : List D) (i : Int) : ixL (.lst l) (.int i) = M.opt (L2.atI l i) := rfl
theorem ixT_tup (l : List D) (i : Int) : ixT (.tup l) (.int i) = M.opt (L2.atI l i) := rfl
theorem ixQ_lst (l : List D) (i : Int) : ixQ (.lst l) (.int i) = M.opt (L2.atI l i) := rfl
theorem ixQ_tup (l : List D) (i : Int) : ixQ (.tup l) (.int i) = M.opt (L2.atI l i) := rfl
theorem lenD_lst (l : List D) : lenD [.lst l] = M.ret (.int (l.length : Int)) := rfl
theorem lenD_tup (l : List D) : lenD [.tup l] = M.ret (.int (l.length : Int)) := rfl
theorem listD_lst (l : List D) : listD [.lst l] = M.ret l := rfl
theorem listD_tup (l : List D) : listD [.tup l] = M.ret l := rfl
theorem catD_lst (a b : List D) : catD (.lst a) (.lst b) = M.bnd (M.req (a.length + b.length ≤ 100000)) fun _ => M.ret (a ++ b) := rfl
theorem rng1_int (j : Int) : rng1 [.int j] = M.bnd (M.req (-(2 ^ 62) ≤ j ∧ j < 2 ^ 62)) fun _ => M.ret (rngD 0 j.toNat) := rfl
theorem rng2_int (i j : Int) : rng2 [.int i, .int j] = M.bnd (M.req (-(2 ^ 62) ≤ i ∧ i < 2 ^ 62 ∧ -(2 ^ 62) ≤ j ∧ j < 2 ^ 62)) fun _ => M.ret (rngD i (j - i).toNat) := rfl
theorem sName_go (j : Nat) (d : D) (ρ : Ev) : sName j d ρ = M.ret (ρ.set j (some (.f d))) := rfl
theorem sTup_go (n : Nat) (bs : List D → Ev → M Ev) (l : List D) (ρ : Ev) : sTup n bs (.tup l) ρ = M.bnd (M.req (l.length = n)) fun _ => bs l ρ := rfl
theorem sCons_go (b : D → Ev → M Ev) (bs : List D → Ev → M Ev) (d : D) (l : List D) (ρ : Ev) : sCons b bs (d :: l) ρ = M.bnd (b d ρ) fun ρ' => bs l ρ' := rfl
theorem sNil_go (ρ : Ev) : sNil [] ρ = M.ret ρ := rfl
theorem bTup_go (n : Nat) (bs : List D → Env → M Env) (l : List D) (ρ : Env) : bTup n bs (.tup l) ρ = M.bnd (M.req (l.length = n)) fun _ => bs l ρ := rfl
theorem bCons_go (b : D → Env → M Env) (bs : List D → Env → M Env) (d : D) (l : List D) (ρ : Env) : bCons b bs (d :: l) ρ = M.bnd (b d ρ) fun ρ' => bs l ρ' := rfl
theorem bNil_go (ρ : Env) : bNil [] ρ = M.ret ρ := rfl
theorem two_go (i j : Nat) (ρ : Ev) (d e : D) : two i j ρ [d, e] = M.ret (.nx ((ρ.set i (some (.f d))).set j (some (.f e)))) := rfl
theorem own_go (ρ : Ev) (i : Nat) (l : List D) (h : ρ[i]? = some (some (.o l))) : ownL ρ i = M.ret l := by unfold ownL; rw [h]
theorem atI_0 {α : Type} (x : α) (l : List α) : L2.atI (x :: l) 0 = some x := by
  unfold L2.atI ixN
  rw [if_pos (by decide), if_pos (by simp only [List.length_cons]; omega)]
  rfl
theorem atI_1 {α : Type} (x y : α) (l : List α) : L2.atI (x :: y :: l) 1 = some y := by
  unfold L2.atI ixN
  rw [if_pos (by decide), if_pos (by simp only [List.length_cons]; omega)]
  rfl
theorem atI_2 {α : Type} (x y z : α) (l : List α) : L2.atI (x :: y :: z :: l) 2 = some z := by
  unfold L2.atI ixN
  rw [if_pos (by decide), if_pos (by simp only [List.length_cons]; omega)]
  rfl
theorem ex_ret {α : Type} {m : M α} {P : α → Prop} (h : m.run P) {Q : α → Prop} (k : ∀ a, P a → Q a) : m.run Q := m.mono k h
end Dv
namespace Dv
open PySem PySem.Spec PyProof.Rows L2 Sg
variable {S : Base} {B : Bo S}
mutual
def D.py : D → PyData
  | .non => .none
  | .bl b => .bool b
  | .int i => .int i
  | .str x => .str x
  | .lst l => .list (pyL l)
  | .tup l => .tuple (pyL l)
  | _ => .none
def pyL : List D → List PyData
  | [] => []
  | d :: l => d.py :: pyL l
end
mutual
theorem dp_of {G H : Hp} (s : Sub G H) : ∀ {v : V} {d : D}, d.plain = true → Rp S B G v d → Dp S.K H v d.py
  | _, _, _, .non => .non
  | _, _, _, .bl b => .bl b
  | _, _, _, .int i => .int i
  | _, _, _, .str x => .str x
  | _, _, p, .lst h r => .lst (SqL.of (s _ _ h)) (dp_ofA s (by simpa only [D.plain] using p) r)
  | _, _, p, .tup h r => .tup (sub_tup s h) (dp_ofA s (by simpa only [D.plain] using p) r)
  | _, _, p, .web _ => by simp only [D.plain] at p; cases p
  | _, _, p, .dk _ _ _ => by simp only [D.plain] at p; cases p
  | _, _, p, .dt _ _ _ => by simp only [D.plain] at p; cases p
  | _, _, p, .box _ => by simp only [D.plain] at p; cases p
theorem dp_ofA {G H : Hp} (s : Sub G H) : ∀ {vs : List V} {ds : List D}, plainL ds = true → RpA S B G vs ds → DpAll S.K H vs (pyL ds)
  | _, _, _, .nil => .nil
  | _, _, p, .cons h r => by
    simp only [plainL, Bool.and_eq_true] at p
    exact .cons (dp_of s p.1 h) (dp_ofA s p.2 r)
end
mutual
/-- texts as Python's -/
def D.sok : D → Bool
  | .str x => PyData.strOk x
  | .lst l => sokL l
  | .tup l => sokL l
  | _ => true
def sokL : List D → Bool
  | [] => true
  | d :: l => d.sok && sokL l
end
mutual
theorem can_of : ∀ {d : D}, d.plain = true → d.sok = true → PyData.canLay0 d.py = true
  | .non, _, _ => by simp only [D.py, PyData.canLay0]
  | .bl _, _, _ => by simp only [D.py, PyData.canLay0]
  | .int _, _, _ => by simp only [D.py, PyData.canLay0]
  | .str x, _, s => by simp only [D.py, PyData.canLay0]; simpa only [D.sok] using s
  | .lst l, p, s => by simp only [D.py, PyData.canLay0]; exact can_ofA (by simpa only [D.plain] using p) (by simpa only [D.sok] using s)
  | .tup l, p, s => by simp only [D.py, PyData.canLay0]; exact can_ofA (by simpa only [D.plain] using p) (by simpa only [D.sok] using s)
  | .web _ _ _, p, _ => by simp only [D.plain] at p; cases p
  | .dk _, p, _ => by simp only [D.plain] at p; cases p
  | .dt _, p, _ => by simp only [D.plain] at p; cases p
  | .box, p, _ => by simp only [D.plain] at p; cases p
theorem can_ofA : ∀ {l : List D}, plainL l = true → sokL l = true → PyData.canLayAll0 (pyL l) = true
  | [], _, _ => by simp only [pyL, PyData.canLayAll0]
  | d :: l, p, s => by
    simp only [plainL, sokL, Bool.and_eq_true] at p s
    simp only [pyL, PyData.canLayAll0, can_of p.1 s.1, can_ofA p.2 s.2, Bool.and_self]
end
mutual
theorem deep_of : ∀ {d : D}, PyData.depth d.py ≤ d.deep
  | .non => by simp [D.py, PyData.depth]
  | .bl _ => by simp [D.py, PyData.depth]
  | .int _ => by simp [D.py, PyData.depth]
  | .str x => by simp [D.py, PyData.depth]
  | .lst l => by
    have := deep_ofA (l := l)
    simp only [D.py, PyData.depth, D.deep]; omega
  | .tup l => by
    have := deep_ofA (l := l)
    simp only [D.py, PyData.depth, D.deep]; omega
  | .web _ _ _ => by simp [D.py, PyData.depth]
  | .dk _ => by simp [D.py, PyData.depth]
  | .dt _ => by simp [D.py, PyData.depth]
  | .box => by simp [D.py, PyData.depth]
theorem deep_ofA : ∀ {l : List D}, PyData.depthAll (pyL l) ≤ deepL l
  | [] => by simp [pyL, PyData.depthAll]
  | d :: l => by
    have h1 := deep_of (d := d)
    have h2 := deep_ofA (l := l)
    simp only [pyL, PyData.depthAll, deepL]; omega
end
/-- what can be compared -/
def D.good (d : D) : Prop := d.plain = true ∧ d.sok = true ∧ d.deep ≤ 60
theorem D.good.shaped {d : D} (h : d.good) : SeqAt.shaped d.py = true := by
  unfold SeqAt.shaped
  have := deep_of (d := d)
  have := h.2.2
  rw [can_of h.1 h.2.1, decide_eq_true (by omega)]
  rfl
def eqD (d e : D) : Bool := PyData.eqv d.py e.py
theorem r_eqD : R2D S (rEqD S.K) (fun d e => M.bnd (M.req (d.good ∧ e.good)) fun _ => M.ret (.bl (eqD d e))) := fun B H G x y d e Q k rx ry h =>
  ⟨d.py, e.py, dp_of k.sub h.1.1.1 rx, dp_of k.sub h.1.2.1 ry, h.1.1.shaped, h.1.2.shaped, Rs1.now k h.2 (.bl _)⟩
theorem r_neD : R2D S (rNeD S.K) (fun d e => M.bnd (M.req (d.good ∧ e.good)) fun _ => M.ret (.bl (!eqD d e))) := fun B H G x y d e Q k rx ry h =>
  ⟨d.py, e.py, dp_of k.sub h.1.1.1 rx, dp_of k.sub h.1.2.1 ry, h.1.1.shaped, h.1.2.shaped, Rs1.now k h.2 (.bl _)⟩
def inD (d : D) (l : List D) : Bool := l.any fun z => eqD z d
theorem any_py (d : D) : ∀ l : List D, ((pyL l).any fun z => PyData.eqv z d.py) = inD d l
  | [] => rfl
  | z :: l => by
    unfold inD
    rw [pyL, List.any_cons, List.any_cons, any_py d l]
    rfl
def inL (neg : Bool) : D → D → M D
  | d, .lst l => M.bnd (M.req (d.good ∧ (D.lst l).good)) fun _ => M.ret (.bl (if neg then !inD d l else inD d l))
  | _, _ => M.fail
theorem r_inD : R2D S (rInD S.K) (inL false) := fun B H G x y d e Q k rx ry h => by
  cases e <;> first
    | exact h.elim
    | (rename_i l
       have h2 := dp_of k.sub h.1.2.1 ry
       have h3 := h.1.2.shaped
       simp only [D.py] at h2 h3
       refine ⟨d.py, pyL l, dp_of k.sub h.1.1.1 rx, h2, h.1.1.shaped, h3, ?_⟩
       rw [any_py]
       exact Rs1.now k h.2 (.bl _))
theorem r_notInD : R2D S (rNotInD S.K) (inL true) := fun B H G x y d e Q k rx ry h => by
  cases e <;> first
    | exact h.elim
    | (rename_i l
       have h2 := dp_of k.sub h.1.2.1 ry
       have h3 := h.1.2.shaped
       simp only [D.py] at h2 h3
       refine ⟨d.py, pyL l, dp_of k.sub h.1.1.1 rx, h2, h.1.1.shaped, h3, ?_⟩
       rw [any_py]
       exact Rs1.now k h.2 (.bl _))
def allM : List D → M D
  | [.lst l] => M.bnd (M.choose fun bs : List Bool => l = bs.map D.bl) fun bs => M.ret (.bl (bs.all id))
  | _ => M.fail
theorem bls_of {G : Hp} : ∀ {xs : List V} {bs : List Bool}, RpA S B G xs (bs.map D.bl) → xs = bs.map V.bl
  | _, [], h => by cases h; rfl
  | _, b :: bs, h => by
    cases h with
    | cons h1 h2 => cases h1; rw [bls_of h2]; rfl
theorem r_all : RCD S (rAll S.K) allM := fun B H G vs ds Q k r h => by
  unfold allM at h
  split at h
  · obtain ⟨bs, rfl, h⟩ := h
    cases r with
    | cons r1 r2 =>
      cases r2
      cases r1 with
      | lst ha hr =>
        rw [bls_of hr] at ha
        exact ⟨_, bs, rfl, SqL.of (k.sub _ _ ha), Rs1.now k h (.bl _)⟩
  · exact h.elim
/-! ### when they are equal -/
mutual
/-- no truth values (1 and True are equal) -/
def D.nb : D → Bool
  | .bl _ => false
  | .lst l => nbL l
  | .tup l => nbL l
  | _ => true
def nbL : List D → Bool
  | [] => true
  | d :: l => d.nb && nbL l
end
mutual
theorem eqD_eq : ∀ {d e : D}, d.plain = true → e.plain = true → d.nb = true → e.nb = true → (PyData.eqv d.py e.py = true ↔ d = e)
  | .non, e, _, p, _, q => by cases e <;> simp_all [D.py, PyData.eqv, D.plain, D.nb]
  | .bl _, e, _, _, n, _ => by simp only [D.nb] at n; cases n
  | .int i, e, _, p, _, q => by cases e <;> simp_all [D.py, PyData.eqv, D.plain, D.nb]
  | .str x, e, _, p, _, q => by cases e <;> simp_all [D.py, PyData.eqv, D.plain, D.nb]
  | .lst l, e, p1, p, n, q => by
    cases e with
    | lst m =>
      simp only [D.plain, D.nb] at p1 p n q
      simp only [D.py, PyData.eqv, D.lst.injEq]
      exact eqD_eqA p1 p n q
    | _ => simp_all [D.py, PyData.eqv, D.plain, D.nb]
  | .tup l, e, p1, p, n, q => by
    cases e with
    | tup m =>
      simp only [D.plain, D.nb] at p1 p n q
      simp only [D.py, PyData.eqv, D.tup.injEq]
      exact eqD_eqA p1 p n q
    | _ => simp_all [D.py, PyData.eqv, D.plain, D.nb]
  | .web _ _ _, _, p, _, _, _ => by simp only [D.plain] at p; cases p
  | .dk _, _, p, _, _, _ => by simp only [D.plain] at p; cases p
  | .dt _, _, p, _, _, _ => by simp only [D.plain] at p; cases p
  | .box, _, p, _, _, _ => by simp only [D.plain] at p; cases p
theorem eqD_eqA : ∀ {l m : List D}, plainL l = true → plainL m = true → nbL l = true → nbL m = true → (PyData.eqvAll (pyL l) (pyL m) = true ↔ l = m)
  | [], [], _, _, _, _ => by simp [pyL, PyData.eqvAll]
  | [], _ :: _, _, _, _, _ => by simp [pyL, PyData.eqvAll]
  | _ :: _, [], _, _, _, _ => by simp [pyL, PyData.eqvAll]
  | d :: l, e :: m, p, q, n, o => by
    simp only [plainL, nbL, Bool.and_eq_true] at p q n o
    simp only [pyL, PyData.eqvAll, Bool.and_eq_true, List.cons.injEq]
    rw [eqD_eq p.1 q.1 n.1 o.1, eqD_eqA p.2 q.2 n.2 o.2]
end
/-- plain data without truth values -/
def D.std (d : D) : Prop := d.good ∧ d.nb = true
theorem eqD_iff {d e : D} (h1 : d.std) (h2 : e.std) : eqD d e = true ↔ d = e := eqD_eq h1.1.1 h2.1.1 h1.2 h2.2
theorem inD_iff {d : D} {l : List D} (h1 : d.std) (h2 : ∀ z ∈ l, z.std) : inD d l = true ↔ d ∈ l := by
  unfold inD
  rw [List.any_eq_true]
  exact ⟨fun ⟨z, hz, e⟩ => by rw [← (eqD_iff (h2 z hz) h1).mp e]; exact hz, fun h => ⟨d, h, (eqD_iff h1 h1).mpr rfl⟩⟩
theorem std_int (i : Int) : (D.int i).std := ⟨⟨rfl, rfl, by simp [D.deep]⟩, rfl⟩
/-! lists of such -/
theorem plainL_of : ∀ {l : List D}, (∀ d ∈ l, d.plain = true) → plainL l = true
  | [], _ => rfl
  | d :: l, h => by simp only [plainL, h d (List.mem_cons_self ..), plainL_of fun x hx => h x (List.mem_cons_of_mem _ hx), Bool.and_self]
theorem sokL_of : ∀ {l : List D}, (∀ d ∈ l, d.sok = true) → sokL l = true
  | [], _ => rfl
  | d :: l, h => by simp only [sokL, h d (List.mem_cons_self ..), sokL_of fun x hx => h x (List.mem_cons_of_mem _ hx), Bool.and_self]
theorem nbL_of : ∀ {l : List D}, (∀ d ∈ l, d.nb = true) → nbL l = true
  | [], _ => rfl
  | d :: l, h => by simp only [nbL, h d (List.mem_cons_self ..), nbL_of fun x hx => h x (List.mem_cons_of_mem _ hx), Bool.and_self]
theorem thinL_of : ∀ {l : List D}, (∀ d ∈ l, d.thin = true) → thinL l = true
  | [], _ => rfl
  | d :: l, h => by simp only [thinL, h d (List.mem_cons_self ..), thinL_of fun x hx => h x (List.mem_cons_of_mem _ hx), Bool.and_self]
theorem deepL_of {n : Nat} : ∀ {l : List D}, (∀ d ∈ l, d.deep ≤ n) → deepL l ≤ n
  | [], _ => by simp [deepL]
  | d :: l, h => by
    have h1 := h d (List.mem_cons_self ..)
    have h2 := deepL_of fun x hx => h x (List.mem_cons_of_mem _ hx)
    simp only [deepL]; omega
theorem std_lst {l : List D} {n : Nat} (hn : n < 60) (h : ∀ d ∈ l, d.std ∧ d.deep ≤ n) : (D.lst l).std := by
  refine ⟨⟨?_, ?_, ?_⟩, ?_⟩
  · simp only [D.plain]; exact plainL_of fun d hd => (h d hd).1.1.1
  · simp only [D.sok]; exact sokL_of fun d hd => (h d hd).1.1.2.1
  · have := deepL_of fun d hd => (h d hd).2
    simp only [D.deep]; omega
  · simp only [D.nb]; exact nbL_of fun d hd => (h d hd).1.2
theorem std_tup {l : List D} {n : Nat} (hn : n < 60) (h : ∀ d ∈ l, d.std ∧ d.deep ≤ n) : (D.tup l).std := by
  refine ⟨⟨?_, ?_, ?_⟩, ?_⟩
  · simp only [D.plain]; exact plainL_of fun d hd => (h d hd).1.1.1
  · simp only [D.sok]; exact sokL_of fun d hd => (h d hd).1.1.2.1
  · have := deepL_of fun d hd => (h d hd).2
    simp only [D.deep]; omega
  · simp only [D.nb]; exact nbL_of fun d hd => (h d hd).1.2
def iDD (l : List Int) : D := .lst (l.map D.int)
theorem std_ints (l : List Int) : (iDD l).std := std_lst (n := 0) (by decide) fun d hd => by
  obtain ⟨i, _, rfl⟩ := List.mem_map.mp hd
  exact ⟨std_int i, by simp [D.deep]⟩
theorem deep_ints (l : List Int) : (iDD l).deep ≤ 1 := by
  have := deepL_of (n := 0) (l := l.map D.int) fun d hd => by
    obtain ⟨i, _, rfl⟩ := List.mem_map.mp hd
    simp [D.deep]
  simp only [iDD, D.deep]; omega
theorem int_inj : ∀ {l m : List Int}, l.map D.int = m.map D.int → l = m
  | [], [], _ => rfl
  | [], _ :: _, h => by cases h
  | _ :: _, [], h => by cases h
  | a :: l, b :: m, h => by
    simp only [List.map_cons, List.cons.injEq, D.int.injEq] at h
    rw [h.1, int_inj h.2]
theorem eqD_ints (l m : List Int) : eqD (iDD l) (iDD m) = decide (l = m) := by
  rw [Bool.eq_iff_iff, eqD_iff (std_ints l) (std_ints m), decide_eq_true_eq]
  exact ⟨fun h => int_inj (D.lst.inj h), fun h => by rw [h]⟩
theorem thin_ints {l : List Int} (h : l.length ≤ 100000) : (iDD l).thin = true := by
  simp only [iDD, D.thin, Bool.and_eq_true, decide_eq_true_eq, List.length_map]
  refine ⟨h, thinL_of fun d hd => ?_⟩
  obtain ⟨i, _, rfl⟩ := List.mem_map.mp hd
  simp only [D.thin]
end Dv
namespace Dv
open PySem PySem.Spec PyProof.Rows L2 Sg
variable {S : Base} {B : Bo S} {X : XK}
def tyD : D → Option String
  | .non => some "NoneType"
  | .bl _ => some "bool"
  | .int _ => some "int"
  | .str _ => some "str"
  | .lst _ => some "list"
  | _ => none
def isiB (T : String) (d : D) : Option Bool := (tyD d).bind fun t => kitB t T
theorem ed_isi {ta : TE} {ma : Env → M D} {T : String} (ha : EvD S ta ma) : EvD S (tCB (rIsi S.K) (tCons ta (tCons (tC (.ty T)) tNil))) (fun ρ => M.bnd (ma ρ) fun d => M.bnd (M.opt (isiB T d)) fun b => M.ret (.bl b)) := fun B σ H G ρ Q k er q =>
  ha B σ H G ρ _ k er ((ma ρ).mono (fun d hd v H1 G1 k1 c1 r1 => by
    obtain ⟨b, h1, h2⟩ := M.run_opt hd
    have h2 : Q (.bl b) H1 := (show Rs1 S B H G Q (.bl b) from h2) _ H1 G1 k1 c1 (.bl b)
    cases r1 <;> first
      | exact ⟨_, _, _, _, b, rfl, .ty T, .base .non, kit_ty h1, h2⟩
      | exact ⟨_, _, _, _, b, rfl, .ty T, .base (.bl _), kit_ty h1, h2⟩
      | exact ⟨_, _, _, _, b, rfl, .ty T, .base (.int _), kit_ty h1, h2⟩
      | exact ⟨_, _, _, _, b, rfl, .ty T, .base (.str _), kit_ty h1, h2⟩
      | (rename_i hg hr; exact ⟨_, _, _, _, b, rfl, .ty T, .base (.lst (k1.sub _ _ hg)), kit_ty h1, h2⟩)
      | cases h1) q)
/-! ### rules that name the written part (for comprehensions) -/
section
variable {Y : Cx} {K : PySem.W.Frag}
theorem dx_list (h : Y.K = K) : IxR Y (rIxL K) := by subst h; exact ix_list
theorem dx_tup (h : Y.K = K) : IxR Y (rIxT K) := by subst h; exact ix_tup
theorem dx_seq (h : Y.K = K) : IxR Y (rIx K) := by subst h; exact ix_seq
theorem dv_len (h : Y.K = K) : CallR Y (.builtin "len") (fun xs H Q => ∃ p ys, xs = [.ref p] ∧ (SqL K H p ys ∨ SqT K H p ys) ∧ Q (.int ys.length) H) := by subst h; exact call_len_seq
theorem dv_list (h : Y.K = K) : CallR Y (.type "list") (fun xs H Q => ∃ p ys, xs = [.ref p] ∧ (SqL K H p ys ∨ SqT K H p ys) ∧ ∀ l, H l = none → Q (.ref l) (upd H l (.lst ys))) := by subst h; exact call_list_of
theorem dv_tuple (h : Y.K = K) : CallR Y (.type "tuple") (fun xs H Q => ∃ p ys, xs = [.ref p] ∧ ((SqL K H p ys ∧ ∀ l, H l = none → Q (.ref l) (upd H l (.tup ys))) ∨ (SqT K H p ys ∧ Q (.ref p) H))) := by subst h; exact call_tuple_of
theorem dv_all (h : Y.K = K) (hc : Y.calm = true) : CallR Y (.builtin "all") (rAll K) := by subst h; exact cr_all hc
theorem dv_any (h : Y.K = K) (hc : Y.calm = true) : CallR Y (.builtin "any") (rAny K) := by subst h; exact cr_any hc
theorem dv_sum (h : Y.K = K) (hc : Y.calm = true) : CallR Y (.builtin "sum") (rSum K) := by subst h; exact cr_sum hc
theorem dv_eq (h : Y.K = K) (hu : Y.A.units + 64 < cLine) : OpR Y (compareOp .Eq) (rEqD K) := by subst h; exact op_eqD hu
theorem dv_ne (h : Y.K = K) (hu : Y.A.units + 64 < cLine) : OpR Y (compareOp .NotEq) (rNeD K) := by subst h; exact op_neD hu
theorem dv_in (h : Y.K = K) (hu : Y.A.units + 65 < cLine) : OpR Y (compareOp .In) (rInD K) := by subst h; exact op_inD hu
theorem dv_notIn (h : Y.K = K) (hu : Y.A.units + 65 < cLine) : OpR Y (compareOp .NotIn) (rNotInD K) := by subst h; exact op_notInD hu
theorem dv_slL (h : Y.K = K) : SlR Y (rSlL K) := by subst h; exact sl_list
theorem dv_slT (h : Y.K = K) : SlR Y (rSlT K) := by subst h; exact sl_tup
theorem dv_isi (h : Y.K = K) : CallR Y (.builtin "isinstance") (rIsi K) := by subst h; exact call_isi
theorem di_list {tg l : Expr} {tl : TE} (h : Y.K = K) (hl : PE Y l tl) : PI Y tg l (iList K tl) := by subst h; exact pi_list hl
theorem di_tup {tg l : Expr} {tl : TE} (h : Y.K = K) (hl : PE Y l tl) : PI Y tg l (iTup K tl) := by subst h; exact pi_tup hl
theorem da_star {e : Expr} {p : Pos} {es : List Expr} {te : TE} {t : TA} (h : Y.K = K) (he : PE Y e te) (hr : PA Y es t) (hs : starEach (.Starred e p :: es) Y.env = (true, eval e Y.env) :: starEach es Y.env := by rfl) : PA Y (.Starred e p :: es) (StX.tStar K te t) := by
  subst h
  exact StX.pa_star he hr hs
end
/-! ### loops, by what holds ahead of each turn -/
def stepP (I : Ev → Prop) (P : Ou → Prop) : Ou → Prop
  | .nx ρ => I ρ
  | .ct ρ => I ρ
  | .bk ρ => P (.nx ρ)
  | .rt d => P (.rt d)
  | .rl l => P (.rl l)
  | .er x => P (.er x)
theorem loop_inv {b : D → Ev → M Ev} {g : Ev → M Ou} {P : Ou → Prop} (I : Nat → Ev → Prop) : ∀ (ds : List D) (k : Nat) (ρ : Ev), I k ρ →
    (∀ i (h : i < ds.length) ρ, I (k + i) ρ → (b ds[i] ρ).run fun ρ1 => (g ρ1).run (stepP (I (k + i + 1)) P)) → (∀ ρ, I (k + ds.length) ρ → P (.nx ρ)) → (loopM b g ds ρ).run P
  | [], k, ρ, h0, hs, hd => hd ρ h0
  | d :: ds, k, ρ, h0, hs, hd => by
    have h1 := hs 0 (by simp) ρ h0
    refine (b d ρ).mono (fun ρ1 hρ => (g ρ1).mono (fun o ho => ?_) hρ) h1
    have go : ∀ ρ2, I (k + 1) ρ2 → (loopM b g ds ρ2).run P := fun ρ2 h2 => loop_inv I ds (k + 1) ρ2 h2 (fun i h ρ hi => by
      have := hs (i + 1) (by simp only [List.length_cons]; omega) ρ (by rw [show k + (i + 1) = k + 1 + i by omega]; exact hi)
      rw [show k + (i + 1) + 1 = k + 1 + i + 1 by omega] at this
      simpa only [List.getElem_cons_succ] using this) (fun ρ hi => hd ρ (by simp only [List.length_cons]; rw [show k + (ds.length + 1) = k + 1 + ds.length by omega]; exact hi))
    cases o with
    | nx ρ2 => exact go ρ2 ho
    | ct ρ2 => exact go ρ2 ho
    | bk ρ2 => exact ho
    | rt d => exact ho
    | rl l => exact ho
    | er x => exact ho
/-- the same from the start -/
theorem loop_run {b : D → Ev → M Ev} {g : Ev → M Ou} {P : Ou → Prop} {ds : List D} {ρ : Ev} (I : Nat → Ev → Prop) (h0 : I 0 ρ) (hs : ∀ i (h : i < ds.length) ρ, I i ρ → (b ds[i] ρ).run fun ρ1 => (g ρ1).run (stepP (I (i + 1)) P)) (hd : ∀ ρ, I ds.length ρ → P (.nx ρ)) : (loopM b g ds ρ).run P :=
  loop_inv I ds 0 ρ h0 (fun i h ρ hi => by
    have := hs i h ρ (by simpa using hi)
    simpa using this) (fun ρ hi => hd ρ (by simpa using hi))
theorem step_nx (I : Ev → Prop) (P : Ou → Prop) (ρ : Ev) : stepP I P (.nx ρ) = I ρ := rfl
theorem step_ct (I : Ev → Prop) (P : Ou → Prop) (ρ : Ev) : stepP I P (.ct ρ) = I ρ := rfl
theorem step_bk (I : Ev → Prop) (P : Ou → Prop) (ρ : Ev) : stepP I P (.bk ρ) = P (.nx ρ) := rfl
theorem step_rt (I : Ev → Prop) (P : Ou → Prop) (d : D) : stepP I P (.rt d) = P (.rt d) := rfl
theorem step_rl (I : Ev → Prop) (P : Ou → Prop) (l : List D) : stepP I P (.rl l) = P (.rl l) := rfl
theorem step_er (I : Ev → Prop) (P : Ou → Prop) (x : Exn) : stepP I P (.er x) = P (.er x) := rfl
theorem lcF_go (b : D → Env → M Env) (mt : Env → M Bool) (me : Env → M D) (ρ : Env) (d : D) : lcF b mt me ρ d = M.bnd (b d ρ) fun ρ' => M.bnd (mt ρ') fun t => if t = true then M.bnd (me ρ') fun y => M.ret (some y) else M.ret none := rfl
theorem atI_get {α : Type} {l : List α} {i : Int} (h0 : 0 ≤ i) (h : i.toNat < l.length) : L2.atI l i = some l[i.toNat] := by
  unfold L2.atI ixN
  rw [if_pos h0, if_pos (by omega)]
  exact List.getElem?_eq_getElem h
theorem vOf_int (i : Int) : vOf (.int i) = some (.int i) := rfl
theorem vOf_str (i : Str) : vOf (.str i) = some (.str i) := rfl
theorem find_first {α : Type} {p : α → Bool} {l : List α} {i : Nat} (h : i < l.length) (hn : ∀ j ∈ l.take i, p j = false) (hp : p l[i] = true) : l.find? p = some l[i] := by
  have e : l = l.take i ++ l[i] :: l.drop (i + 1) := by rw [← List.drop_eq_getElem_cons h, List.take_append_drop]
  have h1 : (l.take i).find? p = none := List.find?_eq_none.mpr fun x hx => by rw [hn x hx]; decide
  conv => lhs; rw [e]
  rw [List.find?_append, h1, List.find?_cons, hp]
  rfl
theorem take_next {α : Type} {l : List α} {i : Nat} (h : i < l.length) {P : α → Prop} (hg : ∀ j ∈ l.take i, P j) (hi : P l[i]) : ∀ j ∈ l.take (i + 1), P j := fun j hj => by
  rw [List.take_add_one, List.getElem?_eq_getElem h] at hj
  rcases List.mem_append.mp hj with hj | hj
  · exact hg j hj
  · rw [List.mem_singleton.mp hj]; exact hi
end Dv
namespace Dv
open PySem PySem.Spec PyProof.Rows L2 Sg
variable {S : Base} {B : Bo S} {X : XK}
section
variable {Y : Cx} {K : PySem.W.Frag}
theorem dg_tup {pos : Pos} {es : List Expr} {k : Nat} {t : TGs} {n : Nat} (h : Y.K = K) (hc : Y.calm = true) (ht : PGs Y es t) (hn : (assignEach es Y.env).length = n := by rfl) (hs : List.findIdx? (fun x => x.fst) (assignEach es Y.env) = none := by rfl) : PG Y (Expr.Tuple es k pos) (gTup K n t) := by
  subst h
  exact pg_tup hc ht hn hs
end
def isB : D → D → M D
  | .bl a, .bl b => M.ret (.bl (decide (a = b)))
  | _, _ => M.fail
def notB : D → D → M D
  | .bl a, .bl b => M.ret (.bl (!decide (a = b)))
  | _, _ => M.fail
theorem r_isB : R2D S (fun x y H Q => ∃ a b, x = .bl a ∧ y = .bl b ∧ Q (.bl (decide (a = b))) H) isB := fun B H G x y d e Q k rx ry h => by
  cases d <;> cases e <;> first
    | exact h.elim
    | (cases rx; cases ry; exact ⟨_, _, rfl, rfl, Rs1.now k h (.bl _)⟩)
theorem r_notB : R2D S (fun x y H Q => ∃ a b, x = .bl a ∧ y = .bl b ∧ Q (.bl (!decide (a = b))) H) notB := fun B H G x y d e Q k rx ry h => by
  cases d <;> cases e <;> first
    | exact h.elim
    | (cases rx; cases ry; exact ⟨_, _, rfl, rfl, Rs1.now k h (.bl _)⟩)
theorem isB_go (a b : Bool) : isB (.bl a) (.bl b) = M.ret (.bl (decide (a = b))) := rfl
theorem notB_go (a b : Bool) : notB (.bl a) (.bl b) = M.ret (.bl (!decide (a = b))) := rfl
/-- a call of what may be refused, where it is not -/
def okR : Rx → M D
  | .ok d => M.ret d
  | .er _ => M.fail
theorem okR_go (d : D) : okR (.ok d) = M.ret d := rfl
theorem ed_callX {f : List D → M Rx} {E : XK} {t : TA} {m : Env → M (List D)} (h : EvA S t m) : EvD S (tCall (spX S f) [] E t) (fun ρ => M.bnd (m ρ) fun l => M.bnd (f l) okR) := fun B σ H G ρ Q k er q =>
  h B σ H G ρ _ k er ((m ρ).mono (fun l hl vs H1 G1 k1 c1 r1 => ⟨B, G1, l, k1, by rw [List.append_nil]; exact r1, (f l).mono (fun z hz => by
    cases z with
    | ok d => exact Rs1.after c1 hz
    | er x => exact hz.elim) hl⟩) q)
section
variable {Y : Cx} {CX : CXT} {k : Nat} {f : Addr} {fd : FuncData} {ps ks : List Str} {sp : Sp} {E : XK} {x : Str} {p pos : Pos} {kws : List Keyword} {tk : TA} {g : List Value → List Value → List Value} {gV : List V → List V → List V}
/-- f(k = v, ..) -/
theorem pe_callN0 (F : FnOk Y.prog Y.w Y.K Y.mg Y.base CX k f fd ps sp) (hr : Room k Y.A) (hg : Gl Y x) (hm : Y.mg x = some (.ref f)) (hk : PySem.W.keepIn Y.K (.ref f) = true) (hb : KBn Y.K fd ps 0 ks g gV) (hx : Passes CX Y E)
    (hkw : PK Y kws tk) (hall : (backToKw pos (keywordEach kws Y.env)).all (·.1.isSome) = true := by rfl) (hks : (backToKw pos (keywordEach kws Y.env)).filterMap (·.1) = ks := by rfl)
    (hdb : (x == ("__debug__" : Str)) = false := by decide)
    (hpl : ((backTo pos (starEach [] Y.env)).any (·.1) || (backToKw pos (keywordEach kws Y.env)).any (·.1.isNone)) = false := by rfl) :
    PE Y (.Call (.Name x p) [] kws pos) (tCallN 0 ks.length sp gV E tNil tk) := by
  refine ⟨fun pins s σ H Q I h => ?_⟩
  refine wpAny_Call_Name_kw (ld_glob I hg hm ?_ hdb)
  refine PySem.W.callWith_KW0 (h₀ := Y.base) I.ok.mod.kin hk hall (thn (hkw.run pos pins s σ H _ I h) fun ws s2 ⟨zs, H2, I2, rz, l1, l2, q2⟩ => ⟨I2.kIn, ?_⟩) hpl
  rw [hks]
  exact run_fnN (us := []) F hr hb hx I2 .nil rz l1 l2 q2
end
/-! ### a law: behind the box -/
theorem law_go {t : TS} {g : Ev → M Ou} {n : Nat} {H : Hp} {a bx q : Addr} (h : SvD S X t g) (hb : BxAt H bx q) (tb : LamX.Tabs S.T H) (ref : (g (none :: some (.f .box) :: List.replicate n none)).run fun o => o = .rt (.bl true)) {D : Ends} (hD : ∀ H', D.rt (.bl true) H') : t D (some (.ref a) :: some (.ref bx) :: List.replicate n none) H := by
  let G : Hp := fun _ => none
  have k : Ok (S := S) ⟨some (bx, q)⟩ H G := ⟨(fun a o e => nomatch e), fun _ _ _ => rfl, fun b q' e => by cases e; exact hb, tb, (fun a ps e => nomatch e)⟩
  have get : ∀ {i : Nat} {s : Sl}, (none :: some (.f .box) :: List.replicate n none : Ev)[i]? = some (some s) → i = 1 ∧ s = .f .box := fun {i s} e => by
    match i with
    | 0 => cases e
    | 1 => cases e; exact ⟨rfl, rfl⟩
    | i + 2 =>
      simp only [List.getElem?_cons_succ, List.getElem?_replicate] at e
      split at e <;> cases e
  refine h ⟨some (bx, q)⟩ H G _ H _ _ ⟨G, fun _ => 0, fun b q' e => ?_, k, Ch.refl, ?_, fun i d e => ?_, fun i s e w => ?_, fun i j s t e1 e2 w1 w2 => ?_⟩ (M.mono _ (fun o ho => ?_) ref)
  · obtain ⟨ns, i, r, kk, e1, e2, e3⟩ := k.bx b q' e
    exact ⟨_, _, e1, e2⟩
  · simp only [List.length_cons, List.length_replicate]
  · obtain ⟨rfl, e2⟩ := get e
    cases e2
    exact ⟨_, rfl, .box rfl⟩
  · obtain ⟨rfl, rfl⟩ := get e
    cases w
  · obtain ⟨rfl, rfl⟩ := get e1
    cases w1
  · subst ho
    exact fun v H' G' k' c r => by
      cases r
      exact hD H'
theorem mem_cut {l : List D} {lo hi : Option Int} {d : D} (h : d ∈ cutD l lo hi) : d ∈ l := List.mem_of_mem_drop (List.mem_of_mem_take h)
end Dv
namespace Dv
open PySem PySem.Spec PyProof.Rows L2 RZ Sg Tm Wb
local macro_rules | `(tactic| walk_at "r2") => `(tactic| first | with_reducible exact r_I0 | with_reducible exact r_I | with_reducible exact r_eq | with_reducible exact r_ne | with_reducible exact r_isN | with_reducible exact r_notN | with_reducible exact r_ixL | with_reducible exact r_ixT | with_reducible exact r_ixQ | with_reducible exact r_eqD | with_reducible exact r_neD | with_reducible exact r_inD | with_reducible exact r_notInD | with_reducible exact r_isB | with_reducible exact r_notB)
local macro_rules | `(tactic| walk_at "r2l") => `(tactic| first | with_reducible exact r_cat)
local macro_rules | `(tactic| walk_at "rc") => `(tactic| first | with_reducible exact r_len | with_reducible exact r_all)
local macro_rules | `(tactic| walk_at "rcl") => `(tactic| first | with_reducible exact r_list)
local macro_rules | `(tactic| walk_at "eo") => `(tactic| first | with_reducible exact eo_none | (with_reducible apply eo_some; walk_at "ed"))
local macro_rules | `(tactic| walk_at "ea") => `(tactic| first | with_reducible exact ea_nil | (with_reducible apply ea_star; walk_at "ed"; walk_at "ea") | (with_reducible apply ea_cons; walk_at "ed"; walk_at "ea"))
local macro_rules | `(tactic| walk_at "et") => `(tactic| first
  | with_reducible exact et_yes
  | (with_reducible apply et_test; walk_at "ed") | (with_reducible apply et_B; walk_at "ed") | (with_reducible apply et_not; walk_at "et")
  | (with_reducible apply et_and; walk_at "et"; walk_at "et") | (with_reducible apply et_or; walk_at "et"; walk_at "et"))
local macro_rules | `(tactic| walk_at "eg") => `(tactic| first | with_reducible exact eg_name | (with_reducible apply eg_tup; walk_at "egs"))
local macro_rules | `(tactic| walk_at "egs") => `(tactic| first | with_reducible exact eg_nil | (with_reducible apply eg_cons; walk_at "eg"; walk_at "egs"))
local macro_rules | `(tactic| walk_at "es") => `(tactic| first | with_reducible exact es_name | (with_reducible apply es_tup; walk_at "ess"))
local macro_rules | `(tactic| walk_at "ess") => `(tactic| first | with_reducible exact es_nil | (with_reducible apply es_cons; walk_at "es"; walk_at "ess"))
local macro_rules | `(tactic| walk_at "ei") => `(tactic| first | (with_reducible apply ei_list; walk_at "ed") | (with_reducible apply ei_tup; walk_at "ed") | (with_reducible apply ei_rng1; walk_at "ea") | (with_reducible apply ei_rng2; walk_at "ea") | (with_reducible apply ei_str; walk_at "ed"))
local macro_rules | `(tactic| walk_at "el") => `(tactic| first
  | (with_reducible apply el_lst; walk_at "ea")
  | (focus (with_reducible apply el_lc; rotate_left; walk_at "ei"; walk_at "eg"; walk_at "et"; walk_at "ed"; decide))
  | (with_reducible apply el_op; walk_at "r2l"; walk_at "ed"; walk_at "ed")
  | (with_reducible apply el_cb; walk_at "rcl"; walk_at "ea")
  | (with_reducible apply el_sl; walk_at "ed"; walk_at "eo"; walk_at "eo")
  | (with_reducible apply el_call; walk_at "ea")
  | walk_at "el+"
  | (with_reducible apply el_meth; decide; walk_at "ed"; walk_at "ea"))
local macro_rules | `(tactic| walk_at "ed") => `(tactic| first
  | with_reducible exact ed_var | with_reducible exact ed_c
  | (with_reducible apply ed_op; walk_at "r2"; walk_at "ed"; walk_at "ed")
  | (with_reducible apply ed_call; walk_at "ea")
  | (with_reducible apply ed_callX; walk_at "ea")
  | (with_reducible apply ed_tup; walk_at "ea")
  | (with_reducible apply ed_if; walk_at "et"; walk_at "ed"; walk_at "ed")
  | (with_reducible apply ed_cb; walk_at "rc"; walk_at "ea")
  | (with_reducible apply ed_un r_U; walk_at "ed")
  | (with_reducible apply ed_chain; walk_at "r2"; walk_at "r2"; walk_at "ed"; walk_at "ed"; walk_at "ed")
  | (with_reducible apply ed_andV; walk_at "ed"; walk_at "ed") | (with_reducible apply ed_orV; walk_at "ed"; walk_at "ed")
  | (with_reducible apply ed_meth; decide; walk_at "ed"; walk_at "ea")
  | walk_at "ed+"
  | (with_reducible apply EvL.d; walk_at "el"))
local macro_rules | `(tactic| walk_at "svF") => `(tactic| first
  | (with_reducible apply sv_seq; walk_at "svF"; walk_at "svF")
  | (with_reducible apply sv_asg; walk_at "ed")
  | (with_reducible apply sv_if; walk_at "et"; walk_at "svF"; walk_at "svF")
  | (with_reducible apply sv_for; walk_at "ei"; walk_at "es"; walk_at "svF")
  | walk_at "sv")
local macro_rules | `(tactic| walk_at "sv") => `(tactic| first
  | with_reducible exact sv_next | with_reducible exact sv_break | with_reducible exact sv_cont | with_reducible exact sv_never | with_reducible exact sv_retN
  | (with_reducible apply sv_seq; walk_at "sv"; walk_at "sv")
  | (with_reducible apply sv_asgL; walk_at "el")
  | (with_reducible apply sv_asg; walk_at "ed")
  | (with_reducible apply sv_if; walk_at "et"; walk_at "sv"; walk_at "sv")
  | (with_reducible apply sv_for; walk_at "ei"; walk_at "es"; walk_at "sv")
  | (with_reducible apply sv_par; walk_at "ea")
  | (with_reducible apply sv_app; walk_at "ed")
  | (with_reducible apply sv_ret; walk_at "ed")
  | (with_reducible apply sv_asgT; walk_at "ed"; walk_at "es")
  | (with_reducible apply sv_drop; walk_at "ed"))
structure Bq (mg : Str → Option Value) : Prop where
  range : mg "range" = none
  len : mg "len" = none
  list : mg "list" = none
section
variable {P : Program} {w : World} {K : PySem.W.Frag} {mg : Str → Option Value} {base : Heap} {C : Addr} {T : List (Addr × Str)} {cls : Str → Addr}
theorem takeM_go (n : Int) : takeM [.box, .int n] = M.bnd (M.req (0 < n ∧ n < 2 ^ 100)) fun _ => M.bnd (M.all fun v : Int => 0 ≤ v ∧ v < n) fun v => M.ret (.int v) := rfl
theorem oneM_go (ds : List D) : oneM [.box, .lst ds] = M.bnd (M.req (ds ≠ [] ∧ ds.length ≤ 1000)) fun _ => M.all fun d => d ∈ ds := rfl
def hueM : List D → M D
  | [.box] => M.bnd (M.all fun c : Nat => c = 97 ∨ c = 98 ∨ c = 99) fun c => M.ret (.str ⟨#[c]⟩)
  | _ => M.fail
theorem len_hue {ds : List D} {Q : _ → Prop} (h : (hueM ds).run Q) : ds.length = 1 := by
  unfold hueM at h
  split at h
  · rfl
  · exact h.elim
abbrev N_hue : List Str := ["_law_box_here"]
theorem sc_hue : FnScope N_hue ["_law_box_here"] (defScope sHue) := ⟨rfl, rfl, rfl, by decide +kernel, rfl, by decide +kernel, by decide +kernel⟩
theorem ok_hue {f fO : Addr} {fd dO : FuncData} (F : Fun K "_law_hue" "_law_hue" sHue f fd) (oO : Df P w K mg base 2 "_law_one" ["_law_box_here", "_law_some"] (spD (mkS K C T cls) oneM) fO dO) : FnOk P w K mg base CX0 3 f fd ["_law_box_here"] (spD (mkS K C T cls) hueM) := by
  refine F.ok sc_hue (fun vs H Q E h => ?_) (fun cdv A outer s H vs Q E hr h => ?_)
  · obtain ⟨B, G, ds, _, r, h⟩ := h
    rw [r.length]
    exact len_hue h
  · have hu5 : (A.deeper (envOfC "_law_hue" (defScope sHue) s.heap.objs.size f cdv)).units + 65 < cLine := by
      have := hr.un
      omega
    have hu : (A.deeper (envOfC "_law_hue" (defScope sHue) s.heap.objs.size f cdv)).units + 64 < cLine := by omega
    have hu1 : (A.deeper (envOfC "_law_hue" (defScope sHue) s.heap.objs.size f cdv)).units + 1 < cLine := by omega
    refine ⟨_, (pss_one (ps_ret (pe_call oO.ok (hr.mono (by decide)) (by rfl) oO.gl oO.kp oO.bd .nil pass0 (pa_cons (pv 0) (pa_cons (pe_lst (pa_cons pe_str (pa_cons pe_str (pa_cons pe_str (pa_cons pe_str (pa_cons pe_str (pa_cons pe_str pa_nil))))))) pa_nil))))), ?_⟩
    refine run_D (X := E) (S := mkS K C T cls) (N := N_hue) (by walk_at "sv") ?_ h
    intro ds Q hq
    unfold hueM at hq
    split at hq
    · refine ⟨by decide, ⟨(fun z => nomatch z), by decide⟩, fun d hd => ?_⟩
      simp only [List.mem_cons, List.not_mem_nil, or_false] at hd
      rcases hd with rfl | rfl | rfl | rfl | rfl | rfl
      · exact hq 97 (by decide)
      · exact hq 97 (by decide)
      · exact hq 97 (by decide)
      · exact hq 98 (by decide)
      · exact hq 98 (by decide)
      · exact hq 99 (by decide)
    · exact hq.elim
def signM : List D → M D
  | [.box] => M.bnd (M.all fun c : Nat => c = 112 ∨ c = 113 ∨ c = 114) fun c => M.ret (.str ⟨#[c]⟩)
  | _ => M.fail
theorem len_sign {ds : List D} {Q : _ → Prop} (h : (signM ds).run Q) : ds.length = 1 := by
  unfold signM at h
  split at h
  · rfl
  · exact h.elim
abbrev N_sign : List Str := ["_law_box_here"]
theorem sc_sign : FnScope N_sign ["_law_box_here"] (defScope sSign) := ⟨rfl, rfl, rfl, by decide +kernel, rfl, by decide +kernel, by decide +kernel⟩
theorem ok_sign {f fO : Addr} {fd dO : FuncData} (F : Fun K "_law_sign" "_law_sign" sSign f fd) (oO : Df P w K mg base 2 "_law_one" ["_law_box_here", "_law_some"] (spD (mkS K C T cls) oneM) fO dO) : FnOk P w K mg base CX0 3 f fd ["_law_box_here"] (spD (mkS K C T cls) signM) := by
  refine F.ok sc_sign (fun vs H Q E h => ?_) (fun cdv A outer s H vs Q E hr h => ?_)
  · obtain ⟨B, G, ds, _, r, h⟩ := h
    rw [r.length]
    exact len_sign h
  · have hu5 : (A.deeper (envOfC "_law_sign" (defScope sSign) s.heap.objs.size f cdv)).units + 65 < cLine := by
      have := hr.un
      omega
    have hu : (A.deeper (envOfC "_law_sign" (defScope sSign) s.heap.objs.size f cdv)).units + 64 < cLine := by omega
    have hu1 : (A.deeper (envOfC "_law_sign" (defScope sSign) s.heap.objs.size f cdv)).units + 1 < cLine := by omega
    refine ⟨_, (pss_one (ps_ret (pe_call oO.ok (hr.mono (by decide)) (by rfl) oO.gl oO.kp oO.bd .nil pass0 (pa_cons (pv 0) (pa_cons (pe_lst (pa_cons pe_str (pa_cons pe_str (pa_cons pe_str (pa_cons pe_str pa_nil))))) pa_nil))))), ?_⟩
    refine run_D (X := E) (S := mkS K C T cls) (N := N_sign) (by walk_at "sv") ?_ h
    intro ds Q hq
    unfold signM at hq
    split at hq
    · refine ⟨by decide, ⟨(fun z => nomatch z), by decide⟩, fun d hd => ?_⟩
      simp only [List.mem_cons, List.not_mem_nil, or_false] at hd
      rcases hd with rfl | rfl | rfl | rfl
      · exact hq 112 (by decide)
      · exact hq 112 (by decide)
      · exact hq 113 (by decide)
      · exact hq 114 (by decide)
    · exact hq.elim
def arrowM : List D → M D
  | [.box, .int n] => M.bnd (M.req (0 < n ∧ n < 2 ^ 100)) fun _ => M.bnd (M.all fun k : Ks => AK n k) fun k => M.ret (tieD k)
  | _ => M.fail
theorem len_arrow {ds : List D} {Q : _ → Prop} (h : (arrowM ds).run Q) : ds.length = 2 := by
  unfold arrowM at h
  split at h
  · rfl
  · exact h.elim
/-- a web as the law draws it -/
structure WebK (n : Int) (As Ms : List Ks) : Prop where
  n0 : 0 ≤ n
  ka : ∀ k ∈ As, AK n k
  km : ∀ k ∈ Ms, MK n k
  sa : SrtK As As
  sm : SrtK Ms Ms
  la : As.length ≤ 60
  lm : Ms.length ≤ 60
def webM : List D → M D
  | [.box, .int lo, .int hi] => M.bnd (M.req (0 ≤ lo ∧ lo ≤ hi ∧ hi ≤ 30)) fun _ => M.bnd (M.all fun p : Int × List Ks × List Ks => lo ≤ p.1 ∧ p.1 ≤ hi ∧ WebK p.1 p.2.1 p.2.2 ∧ (p.2.1.length : Int) ≤ 2 * p.1 + 3 ∧ (p.2.2.length : Int) ≤ p.1 + 2) fun p => M.ret (mwD p.1 p.2.1 p.2.2)
  | _ => M.fail
theorem SrtK.self {l u : List Ks} (h : SrtK l u) : SrtK u u := ⟨fun _ h => h, fun _ h => h, h.nd, h.ris⟩
theorem SrtK.len {l u : List Ks} (h : SrtK l u) : u.length ≤ l.length := List.Nodup.length_le_of_subset h.nd fun k hk => h.of k hk
theorem paired_len {α β : Type} {R : α → β → Prop} : ∀ {l : List α} {m : List β}, Paired R l m → m.length = l.length
  | _, _, .nil => rfl
  | _, _, .cons _ t => congrArg (· + 1) (paired_len t)
theorem ties_all {l : List D} {P : Ks → Prop} (h : ∀ d ∈ l, ∃ k, d = tieD k ∧ P k) : ∃ ks : List Ks, l = ks.map tieD ∧ ∀ k ∈ ks, P k := by
  induction l with
  | nil => exact ⟨[], rfl, fun k hk => nomatch hk⟩
  | cons d l ih =>
    obtain ⟨k, rfl, hk⟩ := h d (List.mem_cons_self ..)
    obtain ⟨ks, rfl, hks⟩ := ih fun x hx => h x (List.mem_cons_of_mem _ hx)
    refine ⟨k :: ks, rfl, fun x hx => ?_⟩
    rcases List.mem_cons.mp hx with rfl | hx
    · exact hk
    · exact hks x hx
theorem MK.tie' {n : Int} {k : Ks} (h : MK n k) (hn : n ≤ 128) : TieK 128 2 k := MK.tie h hn
theorem len_web {ds : List D} {Q : _ → Prop} (h : (webM ds).run Q) : ds.length = 3 := by
  unfold webM at h
  split at h
  · rfl
  · exact h.elim
end
end Dv
namespace Dv
open PySem PySem.Spec PyProof.Rows L2 RZ Sg Tm Wb
local macro_rules | `(tactic| walk_at "r2") => `(tactic| first | with_reducible exact r_I0 | with_reducible exact r_I | with_reducible exact r_eq | with_reducible exact r_ne | with_reducible exact r_isN | with_reducible exact r_notN | with_reducible exact r_ixL | with_reducible exact r_ixT | with_reducible exact r_ixQ | with_reducible exact r_eqD | with_reducible exact r_neD | with_reducible exact r_inD | with_reducible exact r_notInD | with_reducible exact r_isB | with_reducible exact r_notB)
local macro_rules | `(tactic| walk_at "r2l") => `(tactic| first | with_reducible exact r_cat)
local macro_rules | `(tactic| walk_at "rc") => `(tactic| first | with_reducible exact r_len | with_reducible exact r_all)
local macro_rules | `(tactic| walk_at "rcl") => `(tactic| first | with_reducible exact r_list)
local macro_rules | `(tactic| walk_at "eo") => `(tactic| first | with_reducible exact eo_none | (with_reducible apply eo_some; walk_at "ed"))
local macro_rules | `(tactic| walk_at "ea") => `(tactic| first | with_reducible exact ea_nil | (with_reducible apply ea_star; walk_at "ed"; walk_at "ea") | (with_reducible apply ea_cons; walk_at "ed"; walk_at "ea"))
local macro_rules | `(tactic| walk_at "et") => `(tactic| first
  | with_reducible exact et_yes
  | (with_reducible apply et_test; walk_at "ed") | (with_reducible apply et_B; walk_at "ed") | (with_reducible apply et_not; walk_at "et")
  | (with_reducible apply et_and; walk_at "et"; walk_at "et") | (with_reducible apply et_or; walk_at "et"; walk_at "et"))
local macro_rules | `(tactic| walk_at "eg") => `(tactic| first | with_reducible exact eg_name | (with_reducible apply eg_tup; walk_at "egs"))
local macro_rules | `(tactic| walk_at "egs") => `(tactic| first | with_reducible exact eg_nil | (with_reducible apply eg_cons; walk_at "eg"; walk_at "egs"))
local macro_rules | `(tactic| walk_at "es") => `(tactic| first | with_reducible exact es_name | (with_reducible apply es_tup; walk_at "ess"))
local macro_rules | `(tactic| walk_at "ess") => `(tactic| first | with_reducible exact es_nil | (with_reducible apply es_cons; walk_at "es"; walk_at "ess"))
local macro_rules | `(tactic| walk_at "ei") => `(tactic| first | (with_reducible apply ei_list; walk_at "ed") | (with_reducible apply ei_tup; walk_at "ed") | (with_reducible apply ei_rng1; walk_at "ea") | (with_reducible apply ei_rng2; walk_at "ea") | (with_reducible apply ei_str; walk_at "ed"))
local macro_rules | `(tactic| walk_at "el") => `(tactic| first
  | (with_reducible apply el_lst; walk_at "ea")
  | (focus (with_reducible apply el_lc; rotate_left; walk_at "ei"; walk_at "eg"; walk_at "et"; walk_at "ed"; decide))
  | (with_reducible apply el_op; walk_at "r2l"; walk_at "ed"; walk_at "ed")
  | (with_reducible apply el_cb; walk_at "rcl"; walk_at "ea")
  | (with_reducible apply el_sl; walk_at "ed"; walk_at "eo"; walk_at "eo")
  | (with_reducible apply el_call; walk_at "ea")
  | walk_at "el+"
  | (with_reducible apply el_meth; decide; walk_at "ed"; walk_at "ea"))
local macro_rules | `(tactic| walk_at "ed") => `(tactic| first
  | with_reducible exact ed_var | with_reducible exact ed_c
  | (with_reducible apply ed_op; walk_at "r2"; walk_at "ed"; walk_at "ed")
  | (with_reducible apply ed_call; walk_at "ea")
  | (with_reducible apply ed_callX; walk_at "ea")
  | (with_reducible apply ed_tup; walk_at "ea")
  | (with_reducible apply ed_if; walk_at "et"; walk_at "ed"; walk_at "ed")
  | (with_reducible apply ed_cb; walk_at "rc"; walk_at "ea")
  | (with_reducible apply ed_un r_U; walk_at "ed")
  | (with_reducible apply ed_chain; walk_at "r2"; walk_at "r2"; walk_at "ed"; walk_at "ed"; walk_at "ed")
  | (with_reducible apply ed_andV; walk_at "ed"; walk_at "ed") | (with_reducible apply ed_orV; walk_at "ed"; walk_at "ed")
  | (with_reducible apply ed_meth; decide; walk_at "ed"; walk_at "ea")
  | walk_at "ed+"
  | (with_reducible apply EvL.d; walk_at "el"))
local macro_rules | `(tactic| walk_at "svF") => `(tactic| first
  | (with_reducible apply sv_seq; walk_at "svF"; walk_at "svF")
  | (with_reducible apply sv_asg; walk_at "ed")
  | (with_reducible apply sv_if; walk_at "et"; walk_at "svF"; walk_at "svF")
  | (with_reducible apply sv_for; walk_at "ei"; walk_at "es"; walk_at "svF")
  | walk_at "sv")
local macro_rules | `(tactic| walk_at "sv") => `(tactic| first
  | with_reducible exact sv_next | with_reducible exact sv_break | with_reducible exact sv_cont | with_reducible exact sv_never | with_reducible exact sv_retN
  | (with_reducible apply sv_seq; walk_at "sv"; walk_at "sv")
  | (with_reducible apply sv_asgL; walk_at "el")
  | (with_reducible apply sv_asg; walk_at "ed")
  | (with_reducible apply sv_if; walk_at "et"; walk_at "sv"; walk_at "sv")
  | (with_reducible apply sv_for; walk_at "ei"; walk_at "es"; walk_at "sv")
  | (with_reducible apply sv_par; walk_at "ea")
  | (with_reducible apply sv_app; walk_at "ed")
  | (with_reducible apply sv_ret; walk_at "ed")
  | (with_reducible apply sv_asgT; walk_at "ed"; walk_at "es")
  | (with_reducible apply sv_drop; walk_at "ed"))
local macro_rules | `(tactic| walk_at "ed+") => `(tactic| first | (with_reducible apply ed_chain; walk_at "r2"; walk_at "r2"; walk_at "ed"; walk_at "ed"; walk_at "ed") | (with_reducible apply ed_isi; walk_at "ed"))
section
variable {P : Program} {w : World} {K : PySem.W.Frag} {mg : Str → Option Value} {base : Heap} {C : Addr} {T : List (Addr × Str)} {cls : Str → Addr}
/-- raise C(e) -/
theorem sv_raise {X : XK} {te : TE} {m : Env → M D} {c : Addr} {w f : Str} (hc : cls w = c) (hf : f ≠ "word") (h : EvD (mkS K C T cls) te m) : SvD (mkS K C T cls) X (fun _ σ H => tMkO c (spE c f w) [] (tCons te tNil) σ H fun k d H' => X k d H') (fun ρ => M.bnd (m (peek ρ)) fun d => M.bnd (M.opt (vOf d)) fun v => M.ret (.er ⟨w, f, v⟩)) := fun B H0 G0 σ H ρ E ⟨G, A, r⟩ q => by
  subst hc
  obtain ⟨G1, k, er, c0, back⟩ := r.peek
  refine h B σ H G1 (peek ρ) _ k er ((m (peek ρ)).mono (fun d hd v H1 G2 k1 c1 r1 => ?_) q)
  obtain ⟨u, hu, hd⟩ := M.run_opt hd
  rw [rp_vOf hu r1]
  refine mkE (te := tC u) (σ := σ) (H := H1) (H1 := H1) (v := u) (fun Q' q => q) fun dd H' nd hdd sm => ?_
  obtain ⟨k2, c2⟩ := old_ok k1 (fun a o _ _ e => sm a o e) (fun a e => FrA.sub (show Sub H1 H' from sm) e) (fun b q e => (k1.bx b q e).sub sm) (tabs_sub sm k1.tb)
  have c3 := (c0.trans c1).trans c2
  exact (show RsE B H0 G0 X ⟨w, f, u⟩ from hd) dd H' G2 k2 c3 ((c0.trans c1).fr _ (FrA.of nd)) (by rw [xdF_f hf]; exact hdd)
end
end Dv
namespace Dv
open PySem PySem.Spec PyProof.Rows L2 Sg
variable {S : Base} {B : Bo S} {X : XK}
/-! ### sorted -/
structure SrtP (l u : List Ks) : Prop where
  perm : u.Perm l
  ris : u.Pairwise fun p q => TS.code 128 (p.map numK) ≤ TS.code 128 (q.map numK)
def srtM : List D → M (List D)
  | [.lst es] => M.bnd (M.choose fun l : List Ks => es = l.map tieD ∧ (∃ d, ∀ k ∈ l, TieK 128 d k) ∧ l.length < 64) fun l => M.bnd (M.all fun u => SrtP l u) fun u => M.ret (u.map tieD)
  | _ => M.fail
theorem r_sort {P : Program} {w : World} : RCL S (rSortX S.K P w) srtM := fun B H G vs ds Q k r h => by
  unfold srtM at h
  split at h
  · obtain ⟨l, ⟨rfl, ⟨d, hd⟩, h64⟩, h⟩ := h
    cases r with
    | cons r1 r2 =>
      cases r2
      obtain ⟨a, ks, rfl, h1, h2, h3⟩ := list_of (l := l) r1
      subst h3
      rw [List.length_map] at h64
      refine ⟨a, ks, d, 128, rfl, .inr ⟨SqL.of (k.sub _ _ h1), h64⟩, fun p hp => sub_tup k.sub (h2 p hp), fun p hp => hd _ (List.mem_map.mpr ⟨p, hp, rfl⟩), fun L' p pm pw _ np => ?_⟩
      exact Rs2.lay k (show Rs2 S B H G Q ((L'.map (·.2)).map tieD) from h _ ⟨pm.map _, by rw [List.pairwise_map]; exact pw⟩) (rp_refs fun z hz => h2 z (pm.mem_iff.mp hz)) np
  · exact h.elim
section
variable {Y : Cx} {K : PySem.W.Frag} {P : Program} {w : World}
theorem dv_sort (h : Y.K = K) (hp : Y.prog = P) (hw : Y.w = w) (hc : Y.calm = true) : CallR Y (.builtin "sorted") (rSortX K P w) := by
  subst h hp hw
  exact cr_sortX hc
end
/-! ### a method of a list -/
theorem ed_bmL {r : V → List V → Hp → VK → Prop} {f : List D → List D → M D} {ta : TE} {t : TA} {ma : Env → M D} {m : Env → M (List D)} (hr : ∀ B H G a xs ds vs es Q, Ok B H G → G a = some (.lst xs) → RpA S B G xs ds → RpA S B G vs es → (f ds es).run (Rs1 S B H G Q) → r (.ref a) vs H Q) (ha : EvD S ta ma) (h : EvA S t m) : EvD S (tBM S.K "list" r ta t) (fun ρ => M.bnd (ma ρ) fun d => M.bnd (asL d) fun l => M.bnd (m ρ) fun es => f l es) := fun B σ H G ρ Q k er q =>
  ha B σ H G ρ _ k er ((ma ρ).mono (fun d hd v H1 G1 k1 c1 r1 => by
    obtain ⟨l, rfl, hd⟩ := asL_run hd
    cases r1 with
    | lst hx hr1 =>
      refine ⟨.inl ⟨rfl, _, SqL.of (k1.sub _ _ hx)⟩, ?_⟩
      refine h B σ H1 G1 ρ _ k1 (er.mono c1.ext) ((m ρ).mono (fun es he vs H2 G2 k2 c2 r2 => ?_) hd)
      exact hr B H2 G2 _ _ l vs es Q k2 (c2.ext _ _ hx) (hr1.mono c2.ext) r2 ((f l es).mono (fun y hy => hy.after (c1.trans c2)) he)) q)
/-- list.index, of whole numbers -/
def idxM : List D → List D → M D
  | ds, [.int x] => M.bnd (M.choose fun p : List Int × Nat => ds = p.1.map D.int ∧ p.1[p.2]? = some x ∧ ∀ m, m < p.2 → p.1[m]? ≠ some x) fun p => M.ret (.int (p.2 : Int))
  | _, _ => M.fail
theorem ints_of {G : Hp} : ∀ {xs : List V} {js : List Int}, RpA S B G xs (js.map D.int) → xs = js.map V.int
  | _, [], h => by cases h; rfl
  | _, j :: js, h => by
    cases h with
    | cons a b => cases a; rw [ints_of b]; rfl
theorem ed_index {ta tb : TE} {ma mb : Env → M D} (ha : EvD S ta ma) (hb : EvD S tb mb) : EvD S (tBM S.K "list" (rIndex S.K) ta (tCons tb tNil)) (fun ρ => M.bnd (ma ρ) fun d => M.bnd (asL d) fun l => M.bnd (M.bnd (mb ρ) fun x => M.bnd (M.ret []) fun xs => M.ret (x :: xs)) fun es => idxM l es) :=
  ed_bmL (f := idxM) (fun B H G a xs ds vs es Q k hx hr h2 h => by
    unfold idxM at h
    split at h
    · obtain ⟨⟨js, j⟩, ⟨rfl, hj, hn⟩, h⟩ := h
      rename_i x
      cases h2 with
      | cons a1 a2 =>
        cases a1
        cases a2
        rw [ints_of hr] at hx
        refine ⟨_, _, _, j, .int x, rfl, rfl, SqL.of (k.sub _ _ hx), rfl, ?_, ?_, ?_, ?_, Rs1.now k h (.int _)⟩
        · refine List.all_eq_true.mpr fun v hv => ?_
          obtain ⟨i, _, rfl⟩ := List.mem_map.mp hv
          rfl
        · rw [List.getElem?_map, hj]; rfl
        · show decide (x = x) = true
          exact decide_eq_true rfl
        · intro m z hm hz
          rw [List.getElem?_map] at hz
          cases e : js[m]? with
          | none => rw [e] at hz; cases hz
          | some y =>
            rw [e] at hz
            cases hz
            refine decide_eq_false fun z => hn m hm ?_
            rw [e, ← z]
    · exact h.elim) ha (ea_cons hb ea_nil)
/-! ### max -/
def maxM : List D → M D
  | [.int i, .int j] => M.ret (.int (max i j))
  | _ => M.fail
theorem r_max : RCD S (fun xs H Q => ∃ i j, xs = [.int i, .int j] ∧ Q (.int (if j > i then j else i)) H) maxM := fun B H G vs ds Q k r h => by
  unfold maxM at h
  split at h
  · rename_i i j
    cases r with
    | cons a b =>
      cases b with
      | cons b c =>
        cases a; cases b; cases c
        refine ⟨_, _, rfl, ?_⟩
        rw [show (if j > i then j else i) = max i j by split <;> omega]
        exact Rs1.now k h (.int _)
  · exact h.elim
def minM : List D → M D
  | [.int i, .int j] => M.ret (.int (min i j))
  | _ => M.fail
theorem r_min : RCD S (fun xs H Q => ∃ i j, xs = [.int i, .int j] ∧ Q (.int (if j < i then j else i)) H) minM := fun B H G vs ds Q k r h => by
  unfold minM at h
  split at h
  · rename_i i j
    cases r with
    | cons a b =>
      cases b with
      | cons b c =>
        cases a; cases b; cases c
        refine ⟨_, _, rfl, ?_⟩
        rw [show (if j < i then j else i) = min i j by split <;> omega]
        exact Rs1.now k h (.int _)
  · exact h.elim
theorem maxM_go (i j : Int) : maxM [.int i, .int j] = M.ret (.int (max i j)) := rfl
theorem minM_go (i j : Int) : minM [.int i, .int j] = M.ret (.int (min i j)) := rfl
/-! ### a dict of texts, looked up -/
theorem ed_disp2 {a b c d : Str} : EvD S (tDisp [(tC (.str a), tC (.str b)), (tC (.str c), tC (.str d))]) (fun _ => M.bnd (M.req (a ≠ c)) fun _ => M.ret (.dk [(.inr a, .str b), (.inr c, .str d)])) := fun B σ H G ρ Q k er q p hp => by
  obtain ⟨hac, q⟩ := q
  refine ⟨upd_same, [(.inr a, .str b), (.inr c, .str d)], rfl, by show 2 ≤ 15; decide, ?_⟩
  rw [upd_upd]
  have e : mergeK [] [(.inr a, V.str b), (.inr c, V.str d)] = [(.inr a, .str b), (.inr c, .str d)] := by
    simp [mergeK, putK, hac]
  rw [e]
  obtain ⟨k1, c1⟩ := k.put hp (.dK [(.inr a, .str b), (.inr c, .str d)]) (fun _ z => nomatch z)
  exact (show Rs1 S B H G Q (.dk [(.inr a, .str b), (.inr c, .str d)]) from q) _ _ _ k1 c1 (.dk upd_same rfl (.cons (.str _) (.cons (.str _) .nil)))
def keyOf : D → Option Key
  | .int i => some (.inl i)
  | .str x => some (.inr x)
  | _ => none
def valD (es : List (Key × D)) (k : Key) : Option D := (es.find? fun kv => decide (kv.1 = k)).map (·.2)
theorem val_of {G : Hp} {k : Key} : ∀ {kvs : List (Key × V)} {es : List (Key × D)}, kvs.map (·.1) = es.map (·.1) → RpA S B G (kvs.map (·.2)) (es.map (·.2)) → (valV kvs k = none ∧ valD es k = none) ∨ ∃ v d, valV kvs k = some v ∧ valD es k = some d ∧ Rp S B G v d
  | [], [], _, _ => .inl ⟨rfl, rfl⟩
  | [], _ :: _, h, _ => by cases h
  | _ :: _, [], h, _ => by cases h
  | (k1, v) :: kvs, (k2, d) :: es, h, r => by
    simp only [List.map_cons, List.cons.injEq] at h
    obtain ⟨rfl, h⟩ := h
    cases r with
    | cons r1 r2 =>
      have ih := val_of (k := k) h r2
      unfold valV valD at ih ⊢
      by_cases e : k1 = k
      · right
        simp only [List.find?_cons, e, decide_true, Option.map_some]
        exact ⟨v, d, rfl, rfl, r1⟩
      · simp only [List.find?_cons, decide_eq_false e]
        exact ih
def getM : D → D → D → M D
  | .dk es, y, z => M.bnd (M.opt (keyOf y)) fun k => M.ret ((valD es k).getD z)
  | _, _, _ => M.fail
theorem rp_keyOf {G : Hp} {v : V} {d : D} {k : Key} (h : keyOf d = some k) (r : Rp S B G v d) : v = kV k := by
  cases r <;> first
    | (cases h; rfl)
    | cases h
def asK : D → M D
  | .dk es => M.ret (.dk es)
  | _ => M.fail
theorem asK_run {d : D} {Q : D → Prop} (h : (asK d).run Q) : ∃ es, d = .dk es ∧ Q (.dk es) := by
  cases d <;> first | exact ⟨_, rfl, h⟩ | exact h.elim
theorem ed_dget2 {td ty tx : TE} {md my mx : Env → M D} (hd : EvD S td md) (hy : EvD S ty my) (hx : EvD S tx mx) : EvD S (tDGet2 td ty tx) (fun ρ => M.bnd (md ρ) fun d => M.bnd (asK d) fun d => M.bnd (my ρ) fun y => M.bnd (mx ρ) fun z => getM d y z) := fun B σ H G ρ Q k er q =>
  hd B σ H G ρ _ k er ((md ρ).mono (fun d hd v H1 G1 k1 c1 r1 => by
    obtain ⟨es, rfl, hd⟩ := asK_run hd
    cases r1 with
    | dk ha he hr =>
      refine ⟨_, rfl, .inl ⟨_, .inl (k1.sub _ _ ha)⟩, ?_⟩
      refine hy B σ H1 G1 ρ _ k1 (er.mono c1.ext) ((my ρ).mono (fun y hy v2 H2 G2 k2 c2 r2 => ?_) hd)
      refine hx B σ H2 G2 ρ _ k2 (er.mono (c1.trans c2).ext) ((mx ρ).mono (fun z hz v3 H3 G3 k3 c3 r3 => ?_) hy)
      obtain ⟨kk, hk, hz⟩ := M.run_opt hz
      dsimp only at hz
      have c13 := (c1.trans c2).trans c3
      rw [rp_keyOf hk r2]
      refine ⟨_, .inl ⟨_, kk, .inl (k3.sub _ _ ((c2.trans c3).ext _ _ ha)), rfl, rfl⟩, ?_⟩
      rcases val_of (k := kk) he (hr.mono (c2.trans c3).ext) with ⟨e1, e2⟩ | ⟨v, d, e1, e2, e3⟩
      · rw [e1]; rw [e2] at hz
        exact (show Rs1 S B H G Q z from hz) _ H3 G3 k3 c13 r3
      · rw [e1]; rw [e2] at hz
        exact (show Rs1 S B H G Q d from hz) _ H3 G3 k3 c13 e3) q)
theorem getM_go (es : List (Key × D)) (x : Str) (z : D) : getM (.dk es) (.str x) z = M.ret ((valD es (.inr x)).getD z) := rfl
theorem asK_go (es : List (Key × D)) : asK (.dk es) = M.ret (.dk es) := rfl
/-! ### what may be refused, within an expression -/
def thX (f : D → M Rx) : Rx → M Rx
  | .ok d => f d
  | .er x => M.ret (.er x)
theorem thX_ok (f : D → M Rx) (d : D) : thX f (.ok d) = f d := rfl
theorem thX_er (f : D → M Rx) (x : Exn) : thX f (.er x) = M.ret (.er x) := rfl
theorem ex_opL {r : R2} {f : D → D → M D} {ta : XK → TE} {tb : TE} {ma : Env → M Rx} {mb : Env → M D} (hr : R2D S r f) (ha : EvX S ta ma) (hb : EvD S tb mb) : EvX S (fun E => tOp r (ta E) tb) (fun ρ => M.bnd (ma ρ) (thX fun x => M.bnd (mb ρ) fun y => M.bnd (f x y) fun z => M.ret (.ok z))) := fun B σ H G ρ Q X k er q =>
  ha B σ H G ρ _ X k er ((ma ρ).mono (fun x hx => by
    cases x with
    | er e => exact hx
    | ok d => exact fun v H1 G1 k1 c1 r1 => hb B σ H1 G1 ρ _ k1 (er.mono c1.ext) ((mb ρ).mono (fun e he v2 H2 G2 k2 c2 r2 => hr B H2 G2 v v2 d e Q k2 (r1.mono c2.ext) r2 ((f d e).mono (fun z hz => Rs1.after (c1.trans c2) hz) he)) hx)) q)
theorem ex_callI {f : List D → M Rx} {i : Int} {t : TA} {m : Env → M (List D)} (h : EvA S t m) : EvX S (fun E => tCall (spX S f) [.int i] E t) (fun ρ => M.bnd (m ρ) fun l => f (l ++ [.int i])) := fun B σ H G ρ Q X k er q =>
  h B σ H G ρ _ k er ((m ρ).mono (fun l hl vs H1 G1 k1 c1 r1 => ⟨B, G1, _, k1, r1.append (.cons (.int i) .nil), (f _).mono (fun z hz => hz.after c1) hl⟩) q)
theorem ed_callNX {f : List D → M Rx} {E : XK} {n k' : Nat} {gV : List V → List V → List V} {gD : List D → List D → List D} {t tk : TA} {m mk : Env → M (List D)} (hg : ∀ {B : Bo S} {G : Hp} {vs zs : List V} {ds es : List D}, RpA S B G vs ds → RpA S B G zs es → ds.length = n → es.length = k' → RpA S B G (gV vs zs) (gD ds es)) (h : EvA S t m) (hk : EvA S tk mk) : EvD S (tCallN n k' (spX S f) gV E t tk) (fun ρ => M.bnd (m ρ) fun l => M.bnd (mk ρ) fun z => M.bnd (M.req (l.length = n ∧ z.length = k')) fun _ => M.bnd (f (gD l z)) okR) := fun B σ H G ρ Q k er q =>
  h B σ H G ρ _ k er ((m ρ).mono (fun l hl vs H1 G1 k1 c1 r1 => hk B σ H1 G1 ρ _ k1 (er.mono c1.ext) ((mk ρ).mono (fun z hz zs H2 G2 k2 c2 r2 => ⟨by rw [r1.length]; exact hz.1.1, by rw [r2.length]; exact hz.1.2, B, G2, _, k2, hg (r1.mono c2.ext) r2 hz.1.1 hz.1.2, (f _).mono (fun y hy => by
    cases y with
    | ok d => exact Rs1.after (c1.trans c2) hy
    | er x => exact hy.elim) hz.2⟩) hl)) q)
/-! ### x.insert(e, y) -/
theorem sv_ins {i j : Nat} {te : TE} {m : Env → M D} (h : EvD S te m) : SvD S X (tDrop (tBM S.K "list" (fun x vs H Q => ∃ (l : Addr) (xs : List V) (i : Int) (y : V), x = .ref l ∧ vs = [.int i, y] ∧ H l = some (.lst xs) ∧ xs.length < sizeLine ∧ 0 ≤ i ∧ i < 2 ^ 63 ∧ Q .non (upd H l (.lst (xs.take i.toNat ++ [y] ++ xs.drop i.toNat)))) (tVar i) (tCons te (tCons (tVar j) tNil)))) (fun ρ => M.bnd (ownL ρ i) fun ds => M.bnd (M.req (ds.length < 100000)) fun _ => M.bnd (m (peek ρ)) fun d => M.bnd (asI d) fun a => M.bnd (M.req (0 ≤ a ∧ a < 2 ^ 63)) fun _ => M.bnd (M.opt ((mask ρ)[j]?.join)) fun d => M.ret (.nx (ρ.set i (some (.o (ds.take a.toNat ++ [d] ++ ds.drop a.toNat)))))) := fun B H0 G0 σ H ρ E ⟨G, A, r⟩ q => by
  obtain ⟨ds, e, hl, q⟩ := ownL_run q
  obtain ⟨h1, h2, h3, o, h4, h5⟩ := r.ow i _ e rfl
  cases o <;> first
    | exact h5.elim
    | (rename_i xs
       refine ⟨_, h1, .inl ⟨rfl, _, SqL.of h4⟩, ?_⟩
       obtain ⟨Gp, kp, er, c0, back⟩ := r.peek
       refine h B σ H Gp (peek ρ) _ kp er ((m (peek ρ)).mono (fun d hd v H1 G1 k1 c1 r1 => ?_) q)
       obtain ⟨G', r', _⟩ := back H1 G1 k1 c1
       cases r1 <;> first
         | exact hd.elim
         | (rename_i a
            obtain ⟨⟨a0, a1⟩, hd⟩ := hd
            obtain ⟨y, hy, hd⟩ := M.run_opt hd
            have ey : (mask ρ)[j]? = some (some y) := by
              cases e : (mask ρ)[j]? with
              | none => rw [e] at hy; cases hy
              | some z => rw [e] at hy; cases z with
                | none => cases hy
                | some z => cases hy; rfl
            obtain ⟨u, hu, ru⟩ := r'.mask.get j y ey
            obtain ⟨_, _, _, o', h4', h5'⟩ := r'.ow i _ e rfl
            have h6 := c1.ch _ (.lst xs) (r.nb h2) (fun _ z => nomatch z) h4
            rw [h6] at h4'
            cases h4'
            refine ⟨u, hu, _, xs, a, u, rfl, rfl, h6, ?_, a0, a1, (show ∀ σ H, Rs S B H0 G0 σ H _ → E.nx σ H from hd) _ _ ⟨G', A, r'.put (s' := .o (ds.take a.toNat ++ [y] ++ ds.drop a.toNat)) e rfl rfl (((RpA.take _ h5').append (.cons ru .nil)).append (RpA.drop _ h5'))⟩⟩
            rw [RpA.length h5]
            exact Nat.lt_of_lt_of_le hl (by decide)))
section
variable {Y : Cx} {K : PySem.W.Frag} {o e : Expr} {es : List Expr} {to : TE} {t : TA} {name : Str} {apos cpos : Pos} {T id : String} {r : V → List V → Hp → VK → Prop}
theorem pe_bmK (hK : Y.K = K) (pa : PlainAttrs T) (slot : Slot T name id) (hty : typeOf (.builtin id) = pure (.type "method_descriptor")) (hm : MtR Y id r) (ho : PE Y o to) (ha : PA Y (e :: es) t)
    (hbase : attributeBase o name Y.env (eval o Y.env) = eval o Y.env := by rfl)
    (hfew : ((backTo cpos (starEach (e :: es) Y.env)).all (fun x => !x.1) && (backToKw cpos (keywordEach [] Y.env)).all (fun x => x.1.isSome)
      && decide ((e :: es).length + ([] : List Keyword).length + (if ([] : List Keyword).isEmpty then 0 else 1) < 30)) = true := by rfl)
    (hline : (apos.endLine == cpos.line) = true := by rfl) (hs : starEach (e :: es) Y.env = (false, eval e Y.env) :: starEach es Y.env := by rfl) (hplain : (backTo cpos (starEach es Y.env)).any (·.1) = false := by rfl) :
    PE Y (.Call (.Attribute o name apos) (e :: es) [] cpos) (tBM K T r to t) := by
  subst hK
  exact pe_bm pa slot hty hm ho ha hbase hfew hline hs hplain
theorem dm_index (hK : Y.K = K) : MtR Y "list.index" (rIndex K) := by subst hK; exact mt_index
theorem dv_max (hc : Y.calm = true) : CallR Y (.builtin "max") (fun xs H Q => ∃ i j, xs = [.int i, .int j] ∧ Q (.int (if j > i then j else i)) H) := call_max2 hc
theorem dv_min (hc : Y.calm = true) : CallR Y (.builtin "min") (fun xs H Q => ∃ i j, xs = [.int i, .int j] ∧ Q (.int (if j < i then j else i)) H) := call_min2 hc
end
theorem own_0 (l : List D) (ρ : Ev) : ownL (some (.o l) :: ρ) 0 = M.ret l := rfl
theorem own_S (s : Option Sl) (ρ : Ev) (i : Nat) : ownL (s :: ρ) (i + 1) = ownL ρ i := by
  unfold ownL
  rw [List.getElem?_cons_succ]
/-- some are taken: what holds of each -/
theorem M.sel_any {α β : Type} {f : α → M (Option β)} {P : β → Prop} : ∀ {l : List α}, (∀ a ∈ l, (f a).run fun o => ∀ b, o = some b → P b) → (M.sel f l).run fun bs => bs.length ≤ l.length ∧ ∀ b ∈ bs, P b
  | [], _ => ⟨Nat.le_refl _, fun b hb => nomatch hb⟩
  | a :: l, h => (f a).mono (fun o ho => (M.sel f l).mono (fun bs hb => by
    show (match o with | some x => x :: bs | none => bs).length ≤ l.length + 1 ∧ ∀ b ∈ (match o with | some x => x :: bs | none => bs), P b
    cases o with
    | none => exact ⟨Nat.le_succ_of_le hb.1, hb.2⟩
    | some x => exact ⟨Nat.succ_le_succ hb.1, fun b hx => (List.mem_cons.mp hx).elim (fun e => by rw [e]; exact ho x rfl) (hb.2 b)⟩) (M.sel_any fun x hx => h x (List.mem_cons_of_mem _ hx))) (h a (List.mem_cons_self ..))
/-- where a number stands -/
def idxI : List Int → Int → Nat
  | [], _ => 0
  | a :: l, x => if a = x then 0 else idxI l x + 1
theorem idx_at {x : Int} : ∀ {l : List Int}, x ∈ l → l[idxI l x]? = some x
  | a :: l, h => by
    unfold idxI
    by_cases e : a = x
    · rw [if_pos e, e]; rfl
    · rw [if_neg e, List.getElem?_cons_succ]
      exact idx_at ((List.mem_cons.mp h).resolve_left fun z => e z.symm)
theorem idx_no {x : Int} : ∀ {l : List Int} {m : Nat}, m < idxI l x → l[m]? ≠ some x
  | [], m, h => by simp
  | a :: l, m, h => by
    unfold idxI at h
    by_cases e : a = x
    · rw [if_pos e] at h; omega
    · rw [if_neg e] at h
      cases m with
      | zero => intro z; cases z; exact e rfl
      | succ m => rw [List.getElem?_cons_succ]; exact idx_no (by omega)
theorem idx_lt {x : Int} {l : List Int} (h : x ∈ l) : idxI l x < l.length := (List.getElem?_eq_some_iff.mp (idx_at h)).1
theorem idx_inj {x y : Int} {l : List Int} (hx : x ∈ l) (hy : y ∈ l) (e : idxI l x = idxI l y) : x = y := by
  have h1 := idx_at hx
  rw [e, idx_at hy] at h1
  exact (Option.some.inj h1).symm
theorem std_str1 {c : Nat} (h : c = 97 ∨ c = 98 ∨ c = 99 ∨ c = 112 ∨ c = 113 ∨ c = 114) : (D.str ⟨#[c]⟩).std := by
  rcases h with rfl | rfl | rfl | rfl | rfl | rfl <;> exact ⟨⟨rfl, by decide +kernel, by simp [D.deep]⟩, rfl⟩
theorem key_inj : ∀ {k l : Ks}, k.map kDd = l.map kDd → k = l
  | [], [], _ => rfl
  | [], _ :: _, h => by cases h
  | _ :: _, [], h => by cases h
  | a :: k, b :: l, h => by
    simp only [List.map_cons, List.cons.injEq] at h
    rw [key_inj h.2]
    have := h.1
    cases a <;> cases b <;> simp only [kDd] at this <;> cases this <;> rfl
theorem tie_inj {k l : Ks} (h : tieD k = tieD l) : k = l := key_inj (D.tup.inj h)
theorem inL_t (d : D) (l : List D) : inL true d (.lst l) = M.bnd (M.req (d.good ∧ (D.lst l).good)) fun _ => M.ret (.bl (!inD d l)) := rfl
theorem inL_f (d : D) (l : List D) : inL false d (.lst l) = M.bnd (M.req (d.good ∧ (D.lst l).good)) fun _ => M.ret (.bl (inD d l)) := rfl
theorem allM_go (l : List D) : allM [.lst l] = M.bnd (M.choose fun bs : List Bool => l = bs.map D.bl) fun bs => M.ret (.bl (bs.all id)) := rfl
theorem ints_all {l : List D} (h : ∀ d ∈ l, ∃ k : Int, d = .int k) : ∃ js : List Int, l = js.map D.int := by
  induction l with
  | nil => exact ⟨[], rfl⟩
  | cons d l ih =>
    obtain ⟨k, rfl⟩ := h d (List.mem_cons_self ..)
    obtain ⟨js, rfl⟩ := ih fun x hx => h x (List.mem_cons_of_mem _ hx)
    exact ⟨k :: js, rfl⟩
theorem iDD_eq (l : List Int) : iDD l = .lst (l.map D.int) := rfl
theorem nodup_mapOn {α β : Type} {f : α → β} : ∀ {l : List α}, (∀ a ∈ l, ∀ b ∈ l, f a = f b → a = b) → l.Nodup → (l.map f).Nodup
  | [], _, _ => List.nodup_nil
  | a :: l, h, nd => by
    rw [List.nodup_cons] at nd
    rw [List.map_cons, List.nodup_cons]
    refine ⟨fun hm => ?_, nodup_mapOn (fun x hx y hy => h x (List.mem_cons_of_mem _ hx) y (List.mem_cons_of_mem _ hy)) nd.2⟩
    obtain ⟨b, hb, e⟩ := List.mem_map.mp hm
    rw [h a (List.mem_cons_self ..) b (List.mem_cons_of_mem _ hb) e.symm] at nd
    exact nd.1 hb
/-! ### list(range(n)) -/
theorem rp_rg {G : Hp} (lo hi : Int) : RpA S B G (rgV lo hi) (rngD lo (hi - lo).toNat) := by
  unfold rgV rngD
  generalize List.range (hi - lo).toNat = l
  induction l with
  | nil => exact .nil
  | cons a l ih => exact .cons (.int _) ih
theorem el_listRg {ta : TE} {ma : Env → M D} (ha : EvD S ta ma) : EvL S (tLstRg (tRg1 ta)) (fun ρ => M.bnd (ma ρ) fun d => M.bnd (asI d) fun n => M.bnd (M.req (-(2 ^ 62) ≤ n ∧ n ≤ 100000)) fun _ => M.ret (rngD 0 n.toNat)) := fun B σ H G ρ Q k er q =>
  ha B σ H G ρ _ k er ((ma ρ).mono (fun d hd v H1 G1 k1 c1 r1 => by
    cases r1 <;> first
      | exact hd.elim
      | (rename_i n
         obtain ⟨⟨h1, h2⟩, hd⟩ := hd
         refine ⟨n, rfl, ⟨by decide, by decide, h1, by omega, by omega⟩, fun p hp => ?_⟩
         have := rp_rg (S := S) (B := B) (G := G1) 0 n
         rw [Int.sub_zero] at this
         exact Rs2.lay k1 (Rs2.after c1 (show Rs2 S B H G Q (rngD 0 n.toNat) from hd)) this hp)) q)
/-- where ways meet -/
theorem seq_cut {m : M Ou} {h : Ev → M Ou} {P : Ou → Prop} (I : Ev → Prop) (h1 : m.run fun o => ∃ ρ, o = .nx ρ ∧ I ρ) (h2 : ∀ ρ, I ρ → (h ρ).run P) : (M.bnd m (thenM h)).run P := m.mono (fun o ⟨ρ, e, hi⟩ => by
  subst e
  exact h2 ρ hi) h1
end Dv
namespace Dv
open PySem PySem.Spec PyProof.Rows L2 RZ Sg Tm Wb
local macro_rules | `(tactic| walk_at "r2") => `(tactic| first | with_reducible exact r_I0 | with_reducible exact r_I | with_reducible exact r_eq | with_reducible exact r_ne | with_reducible exact r_isN | with_reducible exact r_notN | with_reducible exact r_ixL | with_reducible exact r_ixT | with_reducible exact r_ixQ | with_reducible exact r_eqD | with_reducible exact r_neD | with_reducible exact r_inD | with_reducible exact r_notInD | with_reducible exact r_isB | with_reducible exact r_notB)
local macro_rules | `(tactic| walk_at "r2l") => `(tactic| first | with_reducible exact r_cat)
local macro_rules | `(tactic| walk_at "rc") => `(tactic| first | with_reducible exact r_len | with_reducible exact r_all)
local macro_rules | `(tactic| walk_at "rcl") => `(tactic| first | with_reducible exact r_list)
local macro_rules | `(tactic| walk_at "eo") => `(tactic| first | with_reducible exact eo_none | (with_reducible apply eo_some; walk_at "ed"))
local macro_rules | `(tactic| walk_at "ea") => `(tactic| first | with_reducible exact ea_nil | (with_reducible apply ea_star; walk_at "ed"; walk_at "ea") | (with_reducible apply ea_cons; walk_at "ed"; walk_at "ea"))
local macro_rules | `(tactic| walk_at "et") => `(tactic| first
  | with_reducible exact et_yes
  | (with_reducible apply et_test; walk_at "ed") | (with_reducible apply et_B; walk_at "ed") | (with_reducible apply et_not; walk_at "et")
  | (with_reducible apply et_and; walk_at "et"; walk_at "et") | (with_reducible apply et_or; walk_at "et"; walk_at "et"))
local macro_rules | `(tactic| walk_at "eg") => `(tactic| first | with_reducible exact eg_name | (with_reducible apply eg_tup; walk_at "egs"))
local macro_rules | `(tactic| walk_at "egs") => `(tactic| first | with_reducible exact eg_nil | (with_reducible apply eg_cons; walk_at "eg"; walk_at "egs"))
local macro_rules | `(tactic| walk_at "es") => `(tactic| first | with_reducible exact es_name | (with_reducible apply es_tup; walk_at "ess"))
local macro_rules | `(tactic| walk_at "ess") => `(tactic| first | with_reducible exact es_nil | (with_reducible apply es_cons; walk_at "es"; walk_at "ess"))
local macro_rules | `(tactic| walk_at "ei") => `(tactic| first | (with_reducible apply ei_list; walk_at "ed") | (with_reducible apply ei_tup; walk_at "ed") | (with_reducible apply ei_rng1; walk_at "ea") | (with_reducible apply ei_rng2; walk_at "ea") | (with_reducible apply ei_str; walk_at "ed"))
local macro_rules | `(tactic| walk_at "el") => `(tactic| first
  | (with_reducible apply el_lst; walk_at "ea")
  | (focus (with_reducible apply el_lc; rotate_left; walk_at "ei"; walk_at "eg"; walk_at "et"; walk_at "ed"; decide))
  | (with_reducible apply el_op; walk_at "r2l"; walk_at "ed"; walk_at "ed")
  | (with_reducible apply el_cb; walk_at "rcl"; walk_at "ea")
  | (with_reducible apply el_sl; walk_at "ed"; walk_at "eo"; walk_at "eo")
  | (with_reducible apply el_call; walk_at "ea")
  | walk_at "el+"
  | (with_reducible apply el_meth; decide; walk_at "ed"; walk_at "ea"))
local macro_rules | `(tactic| walk_at "ed") => `(tactic| first
  | with_reducible exact ed_var | with_reducible exact ed_c
  | (with_reducible apply ed_op; walk_at "r2"; walk_at "ed"; walk_at "ed")
  | (with_reducible apply ed_call; walk_at "ea")
  | (with_reducible apply ed_callX; walk_at "ea")
  | (with_reducible apply ed_tup; walk_at "ea")
  | (with_reducible apply ed_if; walk_at "et"; walk_at "ed"; walk_at "ed")
  | (with_reducible apply ed_cb; walk_at "rc"; walk_at "ea")
  | (with_reducible apply ed_un r_U; walk_at "ed")
  | (with_reducible apply ed_chain; walk_at "r2"; walk_at "r2"; walk_at "ed"; walk_at "ed"; walk_at "ed")
  | (with_reducible apply ed_andV; walk_at "ed"; walk_at "ed") | (with_reducible apply ed_orV; walk_at "ed"; walk_at "ed")
  | (with_reducible apply ed_meth; decide; walk_at "ed"; walk_at "ea")
  | walk_at "ed+"
  | (with_reducible apply EvL.d; walk_at "el"))
local macro_rules | `(tactic| walk_at "svF") => `(tactic| first
  | (with_reducible apply sv_seq; walk_at "svF"; walk_at "svF")
  | (with_reducible apply sv_asg; walk_at "ed")
  | (with_reducible apply sv_if; walk_at "et"; walk_at "svF"; walk_at "svF")
  | (with_reducible apply sv_for; walk_at "ei"; walk_at "es"; walk_at "svF")
  | walk_at "sv")
local macro_rules | `(tactic| walk_at "sv") => `(tactic| first
  | with_reducible exact sv_next | with_reducible exact sv_break | with_reducible exact sv_cont | with_reducible exact sv_never | with_reducible exact sv_retN
  | (with_reducible apply sv_seq; walk_at "sv"; walk_at "sv")
  | (with_reducible apply sv_asgL; walk_at "el")
  | (with_reducible apply sv_asg; walk_at "ed")
  | (with_reducible apply sv_if; walk_at "et"; walk_at "sv"; walk_at "sv")
  | (with_reducible apply sv_for; walk_at "ei"; walk_at "es"; walk_at "sv")
  | (with_reducible apply sv_par; walk_at "ea")
  | (with_reducible apply sv_app; walk_at "ed")
  | (with_reducible apply sv_ret; walk_at "ed")
  | (with_reducible apply sv_asgT; walk_at "ed"; walk_at "es")
  | (with_reducible apply sv_drop; walk_at "ed"))
local macro_rules | `(tactic| walk_at "ed+") => `(tactic| first | (with_reducible apply ed_chain; walk_at "r2"; walk_at "r2"; walk_at "ed"; walk_at "ed"; walk_at "ed") | (with_reducible apply ed_mk2; walk_at "ea"; walk_at "ea"))
theorem srtK_eq {d : Nat} {l u v : List Ks} (hu : SrtK l u) (hv : SrtK l v) (ht : ∀ k ∈ l, TieK 128 d k) : u = v := by
  have e : ∀ m : List Ks, (m.map fun k => ((0, k) : TK)).map (·.2) = m := fun m => by
    rw [List.map_map]
    exact List.map_id _
  have := same_keys (B := 128) (d := d) (U := u.map fun k => ((0, k) : TK)) (V := v.map fun k => ((0, k) : TK)) (fun p hp => by
    obtain ⟨k, hk, rfl⟩ := List.mem_map.mp hp
    exact ht k (hu.of k hk)) (fun p hp => by
    obtain ⟨k, hk, rfl⟩ := List.mem_map.mp hp
    exact ht k (hv.of k hk)) (by rw [e]; exact hu.nd) (by rw [e]; exact hv.nd) (by rw [List.pairwise_map]; exact hu.ris) (by rw [List.pairwise_map]; exact hv.ris) (fun k => by
    rw [e, e]
    exact ⟨fun h => hv.all k (hu.of k h), fun h => hu.all k (hv.of k h)⟩)
  rw [e, e] at this
  exact this
theorem WebK.self {n : Int} {As Ms : List Ks} (h : WebK n As Ms) (hn : n ≤ 81) {u v : List Ks} (hu : SrtK As u) (hv : SrtK Ms v) : u = As ∧ v = Ms :=
  ⟨srtK_eq hu h.sa fun k hk => (h.ka k hk).tie (by omega), srtK_eq hv h.sm fun k hk => (h.km k hk).tie (by omega)⟩
theorem std_tieA {n : Int} {k : Ks} (h : AK n k) : (tieD k).std ∧ (tieD k).deep ≤ 1 := by
  obtain ⟨c, x, y, rfl, hc, _⟩ := h
  refine ⟨std_tup (n := 0) (by decide) fun d hd => ?_, by simp [tieD, D.deep, deepL, kDd]⟩
  simp only [List.map_cons, List.map_nil, kDd, List.mem_cons, List.not_mem_nil, or_false] at hd
  rcases hd with rfl | rfl | rfl
  · exact ⟨std_str1 (by omega), by simp [D.deep]⟩
  · exact ⟨std_int _, by simp [D.deep]⟩
  · exact ⟨std_int _, by simp [D.deep]⟩
theorem std_tieM {n : Int} {k : Ks} (h : MK n k) : (tieD k).std ∧ (tieD k).deep ≤ 1 := by
  obtain ⟨c, x, rfl, hc, _⟩ := h
  refine ⟨std_tup (n := 0) (by decide) fun d hd => ?_, by simp [tieD, D.deep, deepL, kDd]⟩
  simp only [List.map_cons, List.map_nil, kDd, List.mem_cons, List.not_mem_nil, or_false] at hd
  rcases hd with rfl | rfl
  · exact ⟨std_str1 (by omega), by simp [D.deep]⟩
  · exact ⟨std_int _, by simp [D.deep]⟩
theorem std_liA {n : Int} {l : List Ks} (h : ∀ k ∈ l, AK n k) : (lD l).std := std_lst (n := 1) (by decide) fun d hd => by
  obtain ⟨k, hk, rfl⟩ := List.mem_map.mp hd
  exact std_tieA (h k hk)
theorem std_liM {n : Int} {l : List Ks} (h : ∀ k ∈ l, MK n k) : (lD l).std := std_lst (n := 1) (by decide) fun d hd => by
  obtain ⟨k, hk, rfl⟩ := List.mem_map.mp hd
  exact std_tieM (h k hk)
theorem img_atD {js : List Int} {i : Int} (h0 : 0 ≤ i) (h : i < (js.length : Int)) : L2.atI (js.map D.int) i = some (.int (img js i)) := by
  rw [atI_get h0 (by rw [List.length_map]; omega), List.getElem_map]
  congr 2
  unfold img
  rw [List.getD_eq_getElem?_getD, List.getElem?_eq_getElem (by omega)]
  rfl
section
variable {P : Program} {w : World} {K : PySem.W.Frag} {mg : Str → Option Value} {base : Heap} {C : Addr} {T : List (Addr × Str)} {cls : Str → Addr}
def madeM : List D → M D
  | [.tup [.int n, .lst es, .lst fs]] => mkM n es fs
  | _ => M.fail
theorem len_made {ds : List D} {Q : D → Prop} (h : (madeM ds).run Q) : ds.length = 1 := by
  unfold madeM at h
  split at h
  · rfl
  · exact h.elim
abbrev N_made : List Str := ["_law_m"]
theorem sc_made : FnScope N_made ["_law_m"] (defScope sMade) := ⟨rfl, rfl, rfl, by decide +kernel, rfl, by decide +kernel, by decide +kernel⟩
theorem ok_made {f fI ta tm : Addr} {fd dI : FuncData} (F : Fun K "_law_made" "_law_made" sMade f fd) (gW : mg "Web" = some (.ref C)) (M : Mk K C fI) (FI : FunD K "__init__" "Web.__init__" (defArgs sInit) (defBody sInit) (defScope sInit) [] [("arrows", .ref ta), ("marks", .ref tm)] fI dI) (oI : FnOk P w K mg base CX0 2 fI dI psI (spInit K C)) : FnOk P w K mg base CX0 4 f fd ["_law_m"] (spD (mkS K C T cls) madeM) := by
  obtain ⟨mv2, k2⟩ := kb2 FI (fun z => nomatch z)
  refine F.ok sc_made (fun vs H Q E h => ?_) (fun cdv A outer s H vs Q E hr h => ?_)
  · obtain ⟨B, G, ds, _, r, h⟩ := h
    rw [r.length]
    exact len_made h
  · have hu5 : (A.deeper (envOfC "_law_made" (defScope sMade) s.heap.objs.size f cdv)).units + 65 < cLine := by
      have := hr.un
      omega
    have hu : (A.deeper (envOfC "_law_made" (defScope sMade) s.heap.objs.size f cdv)).units + 64 < cLine := by omega
    have hu1 : (A.deeper (envOfC "_law_made" (defScope sMade) s.heap.objs.size f cdv)).units + 1 < cLine := by omega
    refine ⟨_, (pss_one (ps_ret (pe_makeK M oI hr (by rfl) gW k2 pass0 (pa_cons (pe_ix (dx_tup (K := K) rfl) (pv 0) pe_int (fun _ _ => rfl)) pa_nil) (pk_cons (pe_ix (dx_tup (K := K) rfl) (pv 0) pe_int (fun _ _ => rfl)) (pk_cons (pe_ix (dx_tup (K := K) rfl) (pv 0) pe_int (fun _ _ => rfl)) pk_nil))))), ?_⟩
    refine run_D (X := E) (S := mkS K C T cls) (N := N_made) (by walk_at "sv") ?_ h
    intro ds Q hq
    unfold madeM at hq
    split at hq
    · rename_i n es fs
      have e : startE N_made.length [.tup [.int n, .lst es, .lst fs]] = [some (.f (.tup [.int n, .lst es, .lst fs]))] := rfl
      rw [e]
      simp only [mk2, run_bnd, run_ret, run_opt, run_req, run_all, run_choose, run_ite, then_nx, then_rt, then_rl, then_er, then_ct, then_bk, outD_rt, outD_rl, outD_nx, outL_rl, outX_rt, outX_rl, outX_nx, outX_er, mask_nil, mask_cons, mk0_f, mk0_o, mk0_od, mk0_ot, mk0_n, peek_nil, peek_cons, pk_f, pk_o, pk_od, pk_ot, pk_n, dOf_int, dOf_bl, dOf_str, dOf_non, opI0_int, opI_int, unI_int, asB_bl, asI_int, asL_lst, asT_tup, asW_web, eqS_int, eqS_str, ixL_lst, ixT_tup, ixQ_lst, ixQ_tup, lenD_lst, lenD_tup, listD_lst, listD_tup, catD_lst, rng1_int, rng2_int, sName_go, sTup_go, sCons_go, sNil_go, bTup_go, bCons_go, bNil_go, two_go, List.set_cons_zero, List.set_cons_succ, List.getElem?_cons_zero, List.getElem?_cons_succ, Option.join_some, atI_0, atI_1, atI_2, decide_eq_true_eq, wipeE, List.map_cons, List.map_nil, step_nx, step_ct, step_bk, step_rt, step_rl, step_er, vOf_int, vOf_str]
      exact hq
    · exact hq.elim
theorem webM_go (lo hi : Int) : webM [.box, .int lo, .int hi] = M.bnd (M.req (0 ≤ lo ∧ lo ≤ hi ∧ hi ≤ 30)) fun _ => M.bnd (M.all fun p : Int × List Ks × List Ks => lo ≤ p.1 ∧ p.1 ≤ hi ∧ WebK p.1 p.2.1 p.2.2 ∧ (p.2.1.length : Int) ≤ 2 * p.1 + 3 ∧ (p.2.2.length : Int) ≤ p.1 + 2) fun p => M.ret (mwD p.1 p.2.1 p.2.2) := rfl
theorem made_go {n : Int} {As Ms : List Ks} {Q : D → Prop} (h : WebK n As Ms) (hn : n ≤ 81) (q : Q (.web n As Ms)) : (madeM [mwD n As Ms]).run Q := by
  have la := h.la
  have lm := h.lm
  refine ⟨(As, Ms), ⟨rfl, rfl, h.n0, hn, h.ka, h.km, by show As.length < 64; omega, by show Ms.length < 64; omega⟩, fun ⟨u, v⟩ ⟨hu, hv⟩ => ?_⟩
  obtain ⟨e1, e2⟩ := h.self hn hu hv
  dsimp only at e1 e2
  subst e1 e2
  exact q
end
end Dv
namespace Dv
open PySem PySem.Spec PyProof.Rows L2 RZ Sg Tm Wb
local macro_rules | `(tactic| walk_at "r2") => `(tactic| first | with_reducible exact r_I0 | with_reducible exact r_I | with_reducible exact r_eq | with_reducible exact r_ne | with_reducible exact r_isN | with_reducible exact r_notN | with_reducible exact r_ixL | with_reducible exact r_ixT | with_reducible exact r_ixQ | with_reducible exact r_eqD | with_reducible exact r_neD | with_reducible exact r_inD | with_reducible exact r_notInD | with_reducible exact r_isB | with_reducible exact r_notB)
local macro_rules | `(tactic| walk_at "r2l") => `(tactic| first | with_reducible exact r_cat)
local macro_rules | `(tactic| walk_at "rc") => `(tactic| first | with_reducible exact r_len | with_reducible exact r_all)
local macro_rules | `(tactic| walk_at "rcl") => `(tactic| first | with_reducible exact r_list)
local macro_rules | `(tactic| walk_at "eo") => `(tactic| first | with_reducible exact eo_none | (with_reducible apply eo_some; walk_at "ed"))
local macro_rules | `(tactic| walk_at "ea") => `(tactic| first | with_reducible exact ea_nil | (with_reducible apply ea_star; walk_at "ed"; walk_at "ea") | (with_reducible apply ea_cons; walk_at "ed"; walk_at "ea"))
local macro_rules | `(tactic| walk_at "et") => `(tactic| first
  | with_reducible exact et_yes
  | (with_reducible apply et_test; walk_at "ed") | (with_reducible apply et_B; walk_at "ed") | (with_reducible apply et_not; walk_at "et")
  | (with_reducible apply et_and; walk_at "et"; walk_at "et") | (with_reducible apply et_or; walk_at "et"; walk_at "et"))
local macro_rules | `(tactic| walk_at "eg") => `(tactic| first | with_reducible exact eg_name | (with_reducible apply eg_tup; walk_at "egs"))
local macro_rules | `(tactic| walk_at "egs") => `(tactic| first | with_reducible exact eg_nil | (with_reducible apply eg_cons; walk_at "eg"; walk_at "egs"))
local macro_rules | `(tactic| walk_at "es") => `(tactic| first | with_reducible exact es_name | (with_reducible apply es_tup; walk_at "ess"))
local macro_rules | `(tactic| walk_at "ess") => `(tactic| first | with_reducible exact es_nil | (with_reducible apply es_cons; walk_at "es"; walk_at "ess"))
local macro_rules | `(tactic| walk_at "ei") => `(tactic| first | (with_reducible apply ei_list; walk_at "ed") | (with_reducible apply ei_tup; walk_at "ed") | (with_reducible apply ei_rng1; walk_at "ea") | (with_reducible apply ei_rng2; walk_at "ea") | (with_reducible apply ei_str; walk_at "ed"))
local macro_rules | `(tactic| walk_at "el") => `(tactic| first
  | (with_reducible apply el_lst; walk_at "ea")
  | (focus (with_reducible apply el_lc; rotate_left; walk_at "ei"; walk_at "eg"; walk_at "et"; walk_at "ed"; decide))
  | (with_reducible apply el_op; walk_at "r2l"; walk_at "ed"; walk_at "ed")
  | (with_reducible apply el_cb; walk_at "rcl"; walk_at "ea")
  | (with_reducible apply el_sl; walk_at "ed"; walk_at "eo"; walk_at "eo")
  | (with_reducible apply el_call; walk_at "ea")
  | walk_at "el+"
  | (with_reducible apply el_meth; decide; walk_at "ed"; walk_at "ea"))
local macro_rules | `(tactic| walk_at "ed") => `(tactic| first
  | with_reducible exact ed_var | with_reducible exact ed_c
  | (with_reducible apply ed_op; walk_at "r2"; walk_at "ed"; walk_at "ed")
  | (with_reducible apply ed_call; walk_at "ea")
  | (with_reducible apply ed_callX; walk_at "ea")
  | (with_reducible apply ed_tup; walk_at "ea")
  | (with_reducible apply ed_if; walk_at "et"; walk_at "ed"; walk_at "ed")
  | (with_reducible apply ed_cb; walk_at "rc"; walk_at "ea")
  | (with_reducible apply ed_un r_U; walk_at "ed")
  | (with_reducible apply ed_chain; walk_at "r2"; walk_at "r2"; walk_at "ed"; walk_at "ed"; walk_at "ed")
  | (with_reducible apply ed_andV; walk_at "ed"; walk_at "ed") | (with_reducible apply ed_orV; walk_at "ed"; walk_at "ed")
  | (with_reducible apply ed_meth; decide; walk_at "ed"; walk_at "ea")
  | walk_at "ed+"
  | (with_reducible apply EvL.d; walk_at "el"))
local macro_rules | `(tactic| walk_at "svF") => `(tactic| first
  | (with_reducible apply sv_seq; walk_at "svF"; walk_at "svF")
  | (with_reducible apply sv_asg; walk_at "ed")
  | (with_reducible apply sv_if; walk_at "et"; walk_at "svF"; walk_at "svF")
  | (with_reducible apply sv_for; walk_at "ei"; walk_at "es"; walk_at "svF")
  | walk_at "sv")
local macro_rules | `(tactic| walk_at "sv") => `(tactic| first
  | with_reducible exact sv_next | with_reducible exact sv_break | with_reducible exact sv_cont | with_reducible exact sv_never | with_reducible exact sv_retN
  | (with_reducible apply sv_seq; walk_at "sv"; walk_at "sv")
  | (with_reducible apply sv_asgL; walk_at "el")
  | (with_reducible apply sv_asg; walk_at "ed")
  | (with_reducible apply sv_if; walk_at "et"; walk_at "sv"; walk_at "sv")
  | (with_reducible apply sv_for; walk_at "ei"; walk_at "es"; walk_at "sv")
  | (with_reducible apply sv_par; walk_at "ea")
  | (with_reducible apply sv_app; walk_at "ed")
  | (with_reducible apply sv_ret; walk_at "ed")
  | (with_reducible apply sv_asgT; walk_at "ed"; walk_at "es")
  | (with_reducible apply sv_drop; walk_at "ed"))
local macro_rules | `(tactic| walk_at "rc") => `(tactic| first | with_reducible exact r_len | with_reducible exact r_all | with_reducible exact r_max | with_reducible exact r_min)
local macro_rules | `(tactic| walk_at "rcl") => `(tactic| first | with_reducible exact r_list | with_reducible exact r_sort)
local macro_rules | `(tactic| walk_at "el+") => `(tactic| (with_reducible apply el_listRg; walk_at "ed"))
local macro_rules | `(tactic| walk_at "edm") => `(tactic| first | (with_reducible apply ed_index; walk_at "ed"; walk_at "ed") | (with_reducible apply ed_dget2; walk_at "ed"; walk_at "ed"; walk_at "ed") | with_reducible exact ed_disp2 | (with_reducible apply ed_chain; walk_at "r2"; walk_at "r2"; walk_at "ed"; walk_at "ed"; walk_at "ed"))
local macro_rules | `(tactic| walk_at "ed+") => `(tactic| walk_at "edm")
local macro_rules | `(tactic| walk_at "ex") => `(tactic| first | (with_reducible apply ex_callI; walk_at "ea") | (with_reducible apply ex_call; walk_at "ea") | (with_reducible apply ex_opL; walk_at "r2"; walk_at "ex"; walk_at "ed"))
local macro_rules | `(tactic| walk_at "svM") => `(tactic| first
  | (with_reducible apply sv_seq; walk_at "svM"; walk_at "svM")
  | (with_reducible apply sv_ins; walk_at "ed")
  | (with_reducible apply sv_asg; walk_at "ed")
  | (with_reducible apply sv_asgX; walk_at "ex")
  | (with_reducible apply sv_retX; walk_at "ex")
  | (with_reducible apply sv_if; walk_at "et"; walk_at "svM"; walk_at "svM")
  | (with_reducible apply sv_for; walk_at "ei"; walk_at "es"; walk_at "svM")
  | walk_at "sv")
local macro_rules | `(tactic| walk_at "svO") => `(tactic| first
  | (with_reducible apply sv_seq; walk_at "svO"; walk_at "svO")
  | (with_reducible apply sv_asgL; walk_at "el")
  | (with_reducible apply sv_ins; walk_at "ed")
  | (with_reducible apply sv_for; walk_at "ei"; walk_at "es"; walk_at "svO")
  | with_reducible exact sv_retV
  | walk_at "sv")
theorem perm_ins {α : Type} (l : List α) (d : α) (a : Nat) : (l.take a ++ [d] ++ l.drop a).Perm (l ++ [d]) := by
  have h : (l.take a ++ [d] ++ l.drop a).Perm (l.take a ++ (l.drop a ++ [d])) := by
    rw [List.append_assoc]
    exact List.Perm.append_left _ List.perm_append_comm
  rw [← List.append_assoc, List.take_append_drop] at h
  exact h
theorem take_snoc {α : Type} {l : List α} {i : Nat} (h : i < l.length) : l.take (i + 1) = l.take i ++ [l[i]] := by
  rw [List.take_add_one, List.getElem?_eq_getElem h]
  rfl
section
variable {P : Program} {w : World} {K : PySem.W.Frag} {mg : Str → Option Value} {base : Heap} {C : Addr} {T : List (Addr × Str)} {cls : Str → Addr}
def mixM : List D → M (List D)
  | [.box, .lst ds] => M.bnd (M.req (ds.length ≤ 1000)) fun _ => M.bnd (M.all fun es : List D => es.Perm ds) fun es => M.ret es
  | _ => M.fail
theorem len_mixed {ds : List D} {Q : _ → Prop} (h : (mixM ds).run Q) : ds.length = 2 := by
  unfold mixM at h
  split at h
  · rfl
  · exact h.elim
abbrev N_mixed : List Str := ["_law_box_here", "_law_some", "_law_found", "_law_one_here"]
theorem sc_mixed : FnScope N_mixed ["_law_box_here", "_law_some"] (defScope sMixed) := ⟨rfl, rfl, rfl, by decide +kernel, rfl, by decide +kernel, by decide +kernel⟩
theorem ok_mixed {f fT : Addr} {fd dT : FuncData} (F : Fun K "_law_mixed" "_law_mixed" sMixed f fd) (b : Bq mg) (oT : Df P w K mg base 1 "_law_take" ["_law_box_here", "_law_many"] (spD (mkS K C T cls) takeM) fT dT) : FnOk P w K mg base CX0 2 f fd ["_law_box_here", "_law_some"] (spL (mkS K C T cls) mixM) := by
  refine F.ok sc_mixed (fun vs H Q E h => ?_) (fun cdv A outer s H vs Q E hr h => ?_)
  · obtain ⟨B, G, ds, _, r, h⟩ := h
    rw [r.length]
    exact len_mixed h
  · have hu5 : (A.deeper (envOfC "_law_mixed" (defScope sMixed) s.heap.objs.size f cdv)).units + 65 < cLine := by
      have := hr.un
      omega
    have hu : (A.deeper (envOfC "_law_mixed" (defScope sMixed) s.heap.objs.size f cdv)).units + 64 < cLine := by omega
    have hu1 : (A.deeper (envOfC "_law_mixed" (defScope sMixed) s.heap.objs.size f cdv)).units + 1 < cLine := by omega
    refine ⟨_, (pss_cons (ps_set (i := 2) sc_mixed.nd rfl (.inl rfl) (pe_lst pa_nil))
      (pss_cons (ps_for PassesOwn.never rfl (di_list (K := K) rfl (pv 1)) (pg_name (i := 3) sc_mixed.nd rfl (.inl rfl))
      (pss_one (ps_expr (pe_bmK (K := K) rfl PySem.F.plainAttrs_list PySem.F.slot_list_insert PySem.F.type_list_insert mt_insert (pv 2) (pa_cons (pe_call oT.ok (hr.mono (by decide)) (by rfl) oT.gl oT.kp oT.bd .nil pass0 (pa_cons (pv 0) (pa_cons (pe_op op_add (pe_callB (dv_len (K := K) rfl) (by rfl) b.len PySem.boot_len (pa_cons (pv 2) pa_nil)) pe_int) pa_nil))) (pa_cons (pv 3) pa_nil))))))
      (pss_one (ps_ret (pv 2))))), ?_⟩
    refine run_L (X := E) (S := mkS K C T cls) (N := N_mixed) (by walk_at "svO") ?_ h
    intro ds Q hq
    unfold mixM at hq
    split at hq
    · rename_i ds
      obtain ⟨hl, hq⟩ := hq
      have e : startE N_mixed.length [.box, .lst ds] = [some (.f (.box)), some (.f (.lst ds)), none, none] := rfl
      rw [e]
      simp only [takeM_go, run_bnd, run_ret, run_opt, run_req, run_all, run_choose, run_ite, then_nx, then_rt, then_rl, then_er, then_ct, then_bk, outD_rt, outD_rl, outD_nx, outL_rl, outX_rt, outX_rl, outX_nx, outX_er, mask_nil, mask_cons, mk0_f, mk0_o, mk0_od, mk0_ot, mk0_n, peek_nil, peek_cons, pk_f, pk_o, pk_od, pk_ot, pk_n, dOf_int, dOf_bl, dOf_str, dOf_non, opI0_int, opI_int, unI_int, asB_bl, asI_int, asL_lst, asT_tup, asW_web, eqS_int, eqS_str, ixL_lst, ixT_tup, ixQ_lst, ixQ_tup, lenD_lst, lenD_tup, listD_lst, listD_tup, catD_lst, rng1_int, rng2_int, sName_go, sTup_go, sCons_go, sNil_go, bTup_go, bCons_go, bNil_go, two_go, List.set_cons_zero, List.set_cons_succ, List.getElem?_cons_zero, List.getElem?_cons_succ, Option.join_some, atI_0, atI_1, atI_2, decide_eq_true_eq, wipeE, List.map_cons, List.map_nil, step_nx, step_ct, step_bk, step_rt, step_rl, step_er, vOf_int, vOf_str]
      refine ⟨by show 0 ≤ 100000; decide, ?_⟩
      refine loop_run (fun i ρ => ∃ es y, ρ = [some (.f .box), some (.f (.lst ds)), some (.o es), y] ∧ es.Perm (ds.take i)) ⟨_, _, rfl, by rw [List.take_zero]⟩ ?_ ?_
      · rintro i h ρ ⟨es, y, rfl, pm⟩
        have pl := pm.length_eq
        rw [List.length_take] at pl
        simp only [run_bnd, run_ret, run_opt, run_req, run_all, run_choose, run_ite, then_nx, then_rt, then_rl, then_er, then_ct, then_bk, outD_rt, outD_rl, outD_nx, outL_rl, outX_rt, outX_rl, outX_nx, outX_er, mask_nil, mask_cons, mk0_f, mk0_o, mk0_od, mk0_ot, mk0_n, peek_nil, peek_cons, pk_f, pk_o, pk_od, pk_ot, pk_n, dOf_int, dOf_bl, dOf_str, dOf_non, opI0_int, opI_int, unI_int, asB_bl, asI_int, asL_lst, asT_tup, asW_web, eqS_int, eqS_str, ixL_lst, ixT_tup, ixQ_lst, ixQ_tup, lenD_lst, lenD_tup, listD_lst, listD_tup, catD_lst, rng1_int, rng2_int, sName_go, sTup_go, sCons_go, sNil_go, bTup_go, bCons_go, bNil_go, two_go, List.set_cons_zero, List.set_cons_succ, List.getElem?_cons_zero, List.getElem?_cons_succ, Option.join_some, atI_0, atI_1, atI_2, decide_eq_true_eq, wipeE, List.map_cons, List.map_nil, step_nx, step_ct, step_bk, step_rt, step_rl, step_er, vOf_int, vOf_str, own_0, own_S]
        refine ⟨by omega, ⟨by omega, by omega⟩, fun a ha => ⟨⟨by omega, by omega⟩, ?_⟩⟩
        refine ⟨_, _, rfl, ?_⟩
        rw [take_snoc h]
        exact (perm_ins _ _ _).trans (List.Perm.append_right _ pm)
      · rintro ρ ⟨es, y, rfl, pm⟩
        simp only [run_bnd, run_ret, run_opt, run_req, run_all, run_choose, run_ite, then_nx, then_rt, then_rl, then_er, then_ct, then_bk, outD_rt, outD_rl, outD_nx, outL_rl, outX_rt, outX_rl, outX_nx, outX_er, mask_nil, mask_cons, mk0_f, mk0_o, mk0_od, mk0_ot, mk0_n, peek_nil, peek_cons, pk_f, pk_o, pk_od, pk_ot, pk_n, dOf_int, dOf_bl, dOf_str, dOf_non, opI0_int, opI_int, unI_int, asB_bl, asI_int, asL_lst, asT_tup, asW_web, eqS_int, eqS_str, ixL_lst, ixT_tup, ixQ_lst, ixQ_tup, lenD_lst, lenD_tup, listD_lst, listD_tup, catD_lst, rng1_int, rng2_int, sName_go, sTup_go, sCons_go, sNil_go, bTup_go, bCons_go, bNil_go, two_go, List.set_cons_zero, List.set_cons_succ, List.getElem?_cons_zero, List.getElem?_cons_succ, Option.join_some, atI_0, atI_1, atI_2, decide_eq_true_eq, wipeE, List.map_cons, List.map_nil, step_nx, step_ct, step_bk, step_rt, step_rl, step_er, vOf_int, vOf_str, own_0, own_S]
        rw [List.take_length] at pm
        exact hq es pm
    · exact hq.elim
end
end Dv
namespace Dv
open PySem PySem.Spec PyProof.Rows L2 RZ Sg Tm Wb
local macro_rules | `(tactic| walk_at "r2") => `(tactic| first | with_reducible exact r_I0 | with_reducible exact r_I | with_reducible exact r_eq | with_reducible exact r_ne | with_reducible exact r_isN | with_reducible exact r_notN | with_reducible exact r_ixL | with_reducible exact r_ixT | with_reducible exact r_ixQ | with_reducible exact r_eqD | with_reducible exact r_neD | with_reducible exact r_inD | with_reducible exact r_notInD | with_reducible exact r_isB | with_reducible exact r_notB)
local macro_rules | `(tactic| walk_at "r2l") => `(tactic| first | with_reducible exact r_cat)
local macro_rules | `(tactic| walk_at "rc") => `(tactic| first | with_reducible exact r_len | with_reducible exact r_all)
local macro_rules | `(tactic| walk_at "rcl") => `(tactic| first | with_reducible exact r_list)
local macro_rules | `(tactic| walk_at "eo") => `(tactic| first | with_reducible exact eo_none | (with_reducible apply eo_some; walk_at "ed"))
local macro_rules | `(tactic| walk_at "ea") => `(tactic| first | with_reducible exact ea_nil | (with_reducible apply ea_star; walk_at "ed"; walk_at "ea") | (with_reducible apply ea_cons; walk_at "ed"; walk_at "ea"))
local macro_rules | `(tactic| walk_at "et") => `(tactic| first
  | with_reducible exact et_yes
  | (with_reducible apply et_test; walk_at "ed") | (with_reducible apply et_B; walk_at "ed") | (with_reducible apply et_not; walk_at "et")
  | (with_reducible apply et_and; walk_at "et"; walk_at "et") | (with_reducible apply et_or; walk_at "et"; walk_at "et"))
local macro_rules | `(tactic| walk_at "eg") => `(tactic| first | with_reducible exact eg_name | (with_reducible apply eg_tup; walk_at "egs"))
local macro_rules | `(tactic| walk_at "egs") => `(tactic| first | with_reducible exact eg_nil | (with_reducible apply eg_cons; walk_at "eg"; walk_at "egs"))
local macro_rules | `(tactic| walk_at "es") => `(tactic| first | with_reducible exact es_name | (with_reducible apply es_tup; walk_at "ess"))
local macro_rules | `(tactic| walk_at "ess") => `(tactic| first | with_reducible exact es_nil | (with_reducible apply es_cons; walk_at "es"; walk_at "ess"))
local macro_rules | `(tactic| walk_at "ei") => `(tactic| first | (with_reducible apply ei_list; walk_at "ed") | (with_reducible apply ei_tup; walk_at "ed") | (with_reducible apply ei_rng1; walk_at "ea") | (with_reducible apply ei_rng2; walk_at "ea") | (with_reducible apply ei_str; walk_at "ed"))
local macro_rules | `(tactic| walk_at "el") => `(tactic| first
  | (with_reducible apply el_lst; walk_at "ea")
  | (focus (with_reducible apply el_lc; rotate_left; walk_at "ei"; walk_at "eg"; walk_at "et"; walk_at "ed"; decide))
  | (with_reducible apply el_op; walk_at "r2l"; walk_at "ed"; walk_at "ed")
  | (with_reducible apply el_cb; walk_at "rcl"; walk_at "ea")
  | (with_reducible apply el_sl; walk_at "ed"; walk_at "eo"; walk_at "eo")
  | (with_reducible apply el_call; walk_at "ea")
  | walk_at "el+"
  | (with_reducible apply el_meth; decide; walk_at "ed"; walk_at "ea"))
local macro_rules | `(tactic| walk_at "ed") => `(tactic| first
  | with_reducible exact ed_var | with_reducible exact ed_c
  | (with_reducible apply ed_op; walk_at "r2"; walk_at "ed"; walk_at "ed")
  | (with_reducible apply ed_call; walk_at "ea")
  | (with_reducible apply ed_callX; walk_at "ea")
  | (with_reducible apply ed_tup; walk_at "ea")
  | (with_reducible apply ed_if; walk_at "et"; walk_at "ed"; walk_at "ed")
  | (with_reducible apply ed_cb; walk_at "rc"; walk_at "ea")
  | (with_reducible apply ed_un r_U; walk_at "ed")
  | (with_reducible apply ed_chain; walk_at "r2"; walk_at "r2"; walk_at "ed"; walk_at "ed"; walk_at "ed")
  | (with_reducible apply ed_andV; walk_at "ed"; walk_at "ed") | (with_reducible apply ed_orV; walk_at "ed"; walk_at "ed")
  | (with_reducible apply ed_meth; decide; walk_at "ed"; walk_at "ea")
  | walk_at "ed+"
  | (with_reducible apply EvL.d; walk_at "el"))
local macro_rules | `(tactic| walk_at "svF") => `(tactic| first
  | (with_reducible apply sv_seq; walk_at "svF"; walk_at "svF")
  | (with_reducible apply sv_asg; walk_at "ed")
  | (with_reducible apply sv_if; walk_at "et"; walk_at "svF"; walk_at "svF")
  | (with_reducible apply sv_for; walk_at "ei"; walk_at "es"; walk_at "svF")
  | walk_at "sv")
local macro_rules | `(tactic| walk_at "sv") => `(tactic| first
  | with_reducible exact sv_next | with_reducible exact sv_break | with_reducible exact sv_cont | with_reducible exact sv_never | with_reducible exact sv_retN
  | (with_reducible apply sv_seq; walk_at "sv"; walk_at "sv")
  | (with_reducible apply sv_asgL; walk_at "el")
  | (with_reducible apply sv_asg; walk_at "ed")
  | (with_reducible apply sv_if; walk_at "et"; walk_at "sv"; walk_at "sv")
  | (with_reducible apply sv_for; walk_at "ei"; walk_at "es"; walk_at "sv")
  | (with_reducible apply sv_par; walk_at "ea")
  | (with_reducible apply sv_app; walk_at "ed")
  | (with_reducible apply sv_ret; walk_at "ed")
  | (with_reducible apply sv_asgT; walk_at "ed"; walk_at "es")
  | (with_reducible apply sv_drop; walk_at "ed"))
local macro_rules | `(tactic| walk_at "rc") => `(tactic| first | with_reducible exact r_len | with_reducible exact r_all | with_reducible exact r_max | with_reducible exact r_min)
local macro_rules | `(tactic| walk_at "rcl") => `(tactic| first | with_reducible exact r_list | with_reducible exact r_sort)
local macro_rules | `(tactic| walk_at "el+") => `(tactic| (with_reducible apply el_listRg; walk_at "ed"))
local macro_rules | `(tactic| walk_at "edm") => `(tactic| first | (with_reducible apply ed_index; walk_at "ed"; walk_at "ed") | (with_reducible apply ed_dget2; walk_at "ed"; walk_at "ed"; walk_at "ed") | with_reducible exact ed_disp2 | (with_reducible apply ed_chain; walk_at "r2"; walk_at "r2"; walk_at "ed"; walk_at "ed"; walk_at "ed"))
local macro_rules | `(tactic| walk_at "ed+") => `(tactic| walk_at "edm")
local macro_rules | `(tactic| walk_at "ex") => `(tactic| first | (with_reducible apply ex_callI; walk_at "ea") | (with_reducible apply ex_call; walk_at "ea") | (with_reducible apply ex_opL; walk_at "r2"; walk_at "ex"; walk_at "ed"))
local macro_rules | `(tactic| walk_at "svM") => `(tactic| first
  | (with_reducible apply sv_seq; walk_at "svM"; walk_at "svM")
  | (with_reducible apply sv_ins; walk_at "ed")
  | (with_reducible apply sv_asg; walk_at "ed")
  | (with_reducible apply sv_asgX; walk_at "ex")
  | (with_reducible apply sv_retX; walk_at "ex")
  | (with_reducible apply sv_if; walk_at "et"; walk_at "svM"; walk_at "svM")
  | (with_reducible apply sv_for; walk_at "ei"; walk_at "es"; walk_at "svM")
  | walk_at "sv")
theorem AK.mono {n m : Int} {k : Ks} (h : AK n k) (hn : n ≤ m) : AK m k := by
  obtain ⟨c, x, y, e, hc, x0, x1, y0, y1⟩ := h
  exact ⟨c, x, y, e, hc, x0, by omega, y0, by omega⟩
theorem MK.mono {n m : Int} {k : Ks} (h : MK n k) (hn : n ≤ m) : MK m k := by
  obtain ⟨c, x, e, hc, x0, x1⟩ := h
  exact ⟨c, x, e, hc, x0, by omega⟩
theorem few_arrows {n : Int} {As Ms : List Ks} (h : WebK n As Ms) (hn : n ≤ 1) : As.length ≤ 3 := by
  refine List.Nodup.length_le_of_subset (l₂ := [[.inr ⟨#[97]⟩, .inl 0, .inl 0], [.inr ⟨#[98]⟩, .inl 0, .inl 0], [.inr ⟨#[99]⟩, .inl 0, .inl 0]]) h.sa.nd fun k hk => ?_
  obtain ⟨c, x, y, rfl, hc, x0, x1, y0, y1⟩ := h.ka k hk
  obtain rfl : x = 0 := by omega
  obtain rfl : y = 0 := by omega
  rcases hc with rfl | rfl | rfl <;> simp
theorem few_marks {n : Int} {As Ms : List Ks} (h : WebK n As Ms) (hn : n ≤ 1) : Ms.length ≤ 3 := by
  refine List.Nodup.length_le_of_subset (l₂ := [[.inr ⟨#[112]⟩, .inl 0], [.inr ⟨#[113]⟩, .inl 0], [.inr ⟨#[114]⟩, .inl 0]]) h.sm.nd fun k hk => ?_
  obtain ⟨c, x, rfl, hc, x0, x1⟩ := h.km k hk
  obtain rfl : x = 0 := by omega
  rcases hc with rfl | rfl | rfl <;> simp
theorem tieA (c : Nat) (x y : Int) : tieD [.inr ⟨#[c]⟩, .inl x, .inl y] = .tup [.str ⟨#[c]⟩, .int x, .int y] := rfl
theorem tieM (c : Nat) (x : Int) : tieD [.inr ⟨#[c]⟩, .inl x] = .tup [.str ⟨#[c]⟩, .int x] := rfl
theorem cmul {i j : Int} (h0 : 0 ≤ i) (h1 : i ≤ 100) (k0 : 0 ≤ j) (k1 : j ≤ 100) : CMul i j := .inl ⟨by omega, by omega⟩
section
variable {P : Program} {w : World} {K : PySem.W.Frag} {mg : Str → Option Value} {base : Heap} {C : Addr} {T : List (Addr × Str)} {cls : Str → Addr}
/-- two lists of ties, each sorted -/
theorem unl2 {n : Int} {ka kb : List Ks} {Q : D → Prop} (hn : 0 ≤ n ∧ n ≤ 81) (hka : ∀ k ∈ ka, AK n k) (hkb : ∀ k ∈ kb, MK n k) (la : ka.length ≤ 60) (lb : kb.length ≤ 60) (q : ∀ p : List Ks × List Ks, WebK n p.1 p.2 ∧ p.1.length ≤ ka.length ∧ p.2.length ≤ kb.length → Q (mwD n p.1 p.2)) : (unlM [.lst (ka.map tieD)]).run fun as => (unlM [.lst (kb.map tieD)]).run fun bs => Q (.tup [.int n, .lst as, .lst bs]) := by
  refine ⟨ka, ⟨rfl, ⟨3, fun k hk => (hka k hk).tie (by omega)⟩, by omega⟩, fun ua ha => ⟨kb, ⟨rfl, ⟨2, fun k hk => (hkb k hk).tie (by omega)⟩, by omega⟩, fun ub hb => ?_⟩⟩
  have h1 := ha.len
  have h2 := hb.len
  exact q (ua, ub) ⟨⟨hn.1, fun k hk => hka k (ha.of k hk), fun k hk => hkb k (hb.of k hk), ha.self, hb.self, by show ua.length ≤ 60; omega, by show ub.length ≤ 60; omega⟩, h1, h2⟩
end
end Dv
namespace Dv
open PySem PySem.Spec PyProof.Rows L2 Sg
variable {S : Base} {B : Bo S} {X : XK}
/-! ### dicts: looked into -/
def dgM : D → D → M D
  | .dk es, y => M.bnd (M.opt (keyOf y)) fun k => M.opt (valD es k)
  | _, _ => M.fail
theorem dg_run {d y : D} {Q : D → Prop} (h : (dgM d y).run Q) : ∃ es k z, d = .dk es ∧ keyOf y = some k ∧ valD es k = some z ∧ Q z := by
  cases d <;> first
    | exact h.elim
    | (obtain ⟨k, hk, h⟩ := M.run_opt h
       obtain ⟨z, hz, h⟩ := M.run_opt h
       exact ⟨_, k, z, rfl, hk, hz, h⟩)
theorem ed_dget {td ty : TE} {md my : Env → M D} (hd : EvD S td md) (hy : EvD S ty my) : EvD S (tDGet td ty) (fun ρ => M.bnd (md ρ) fun d => M.bnd (my ρ) fun y => dgM d y) := fun B σ H G ρ Q k er q =>
  hd B σ H G ρ _ k er ((md ρ).mono (fun d hd v H1 G1 k1 c1 r1 => hy B σ H1 G1 ρ _ k1 (er.mono c1.ext) ((my ρ).mono (fun y hy v2 H2 G2 k2 c2 r2 => by
    obtain ⟨es, kk, z, rfl, hk, hz, hq⟩ := dg_run hy
    cases r1 with
    | dk ha he hr =>
      rcases val_of (k := kk) he (hr.mono c2.ext) with ⟨e1, e2⟩ | ⟨v, d, e1, e2, e3⟩
      · rw [hz] at e2; cases e2
      · rw [hz] at e2
        cases e2
        refine ⟨_, v, rfl, ?_, (show Rs1 S B H G Q z from hq) v H2 G2 k2 (c1.trans c2) e3⟩
        rw [rp_keyOf hk r2, ← e1]
        exact DGet.k (k2.sub _ _ (c2.ext _ _ ha))) hd)) q)
def dinM (n : Bool) : D → D → M D
  | y, .dk es => M.bnd (M.opt (keyOf y)) fun k => M.ret (.bl (if n then !(valD es k).isSome else (valD es k).isSome))
  | _, _ => M.fail
theorem din_run {n : Bool} {d y : D} {Q : D → Prop} (h : (dinM n y d).run Q) : ∃ es k, d = .dk es ∧ keyOf y = some k ∧ Q (.bl (if n then !(valD es k).isSome else (valD es k).isSome)) := by
  cases d <;> first
    | exact h.elim
    | (obtain ⟨k, hk, h⟩ := M.run_opt h
       exact ⟨_, k, rfl, hk, h⟩)
theorem val_some {G : Hp} {k : Key} {kvs : List (Key × V)} {es : List (Key × D)} (h : kvs.map (·.1) = es.map (·.1)) (r : RpA S B G (kvs.map (·.2)) (es.map (·.2))) : (valV kvs k).isSome = (valD es k).isSome := by
  rcases val_of (k := k) h r with ⟨e1, e2⟩ | ⟨v, d, e1, e2, _⟩ <;> rw [e1, e2] <;> rfl
theorem ed_din {td ty : TE} {md my : Env → M D} (hy : EvD S ty my) (hd : EvD S td md) : EvD S (tDIn ty td) (fun ρ => M.bnd (my ρ) fun y => M.bnd (md ρ) fun d => dinM false y d) := fun B σ H G ρ Q k er q =>
  hy B σ H G ρ _ k er ((my ρ).mono (fun y hy v H1 G1 k1 c1 r1 => hd B σ H1 G1 ρ _ k1 (er.mono c1.ext) ((md ρ).mono (fun d hd v2 H2 G2 k2 c2 r2 => by
    obtain ⟨es, kk, rfl, hk, hq⟩ := din_run hd
    cases r2 with
    | dk ha he hr =>
      refine ⟨_, _, rfl, by rw [rp_keyOf hk r1]; exact DGet.k (k2.sub _ _ ha), ?_⟩
      rw [val_some he hr]
      exact (show Rs1 S B H G Q _ from hq) _ H2 G2 k2 (c1.trans c2) (.bl _)) hy)) q)
theorem ed_dnin {td ty : TE} {md my : Env → M D} (hy : EvD S ty my) (hd : EvD S td md) : EvD S (tDNotIn ty td) (fun ρ => M.bnd (my ρ) fun y => M.bnd (md ρ) fun d => dinM true y d) := fun B σ H G ρ Q k er q =>
  hy B σ H G ρ _ k er ((my ρ).mono (fun y hy v H1 G1 k1 c1 r1 => hd B σ H1 G1 ρ _ k1 (er.mono c1.ext) ((md ρ).mono (fun d hd v2 H2 G2 k2 c2 r2 => by
    obtain ⟨es, kk, rfl, hk, hq⟩ := din_run hd
    cases r2 with
    | dk ha he hr =>
      refine ⟨_, _, rfl, by rw [rp_keyOf hk r1]; exact DGet.k (k2.sub _ _ ha), ?_⟩
      rw [val_some he hr]
      exact (show Rs1 S B H G Q _ from hq) _ H2 G2 k2 (c1.trans c2) (.bl _)) hy)) q)
def lenK : List D → M D
  | [.dk es] => M.ret (.int es.length)
  | _ => M.fail
theorem r_lenK : RCD S (fun xs H Q => ∃ a kvs, xs = [V.ref a] ∧ H a = some (.dK kvs) ∧ Q (.int kvs.length) H) lenK := fun B H G vs ds Q k r h => by
  unfold lenK at h
  split at h
  · rename_i es
    cases r with
    | cons a b =>
      cases b
      cases a with
      | dk ha he hr =>
        rename_i kvs
        refine ⟨_, _, rfl, k.sub _ _ ha, ?_⟩
        have e := congrArg List.length he
        rw [List.length_map, List.length_map] at e
        rw [e]
        exact Rs1.now k h (.int _)
  · exact h.elim
/-! ### a new dict that may be changed -/
def Rs3 (S : Base) (B : Bo S) (H G : Hp) (Q : VK) (es : List (Key × D)) : Prop := ∀ p kvs H' G', FrA H p → Ok B H' G' → Ch B H G H' G' → H' p = some (.dK kvs) → G' p = none → kvs.map (·.1) = es.map (·.1) → RpA S B G' (kvs.map (·.2)) (es.map (·.2)) → Q (.ref p) H'
def EvK (S : Base) (te : TE) (m : Env → M (List (Key × D))) : Prop := ∀ B σ H G ρ Q, Ok B H G → Er S B G σ ρ → (m ρ).run (Rs3 S B H G Q) → te σ H Q
theorem ek_new : EvK S tDNewK (fun _ => M.ret []) := fun B σ H G ρ Q k er q p hp => by
  obtain ⟨k2, c2⟩ := k.lay hp (.dK [])
  exact (show Rs3 S B H G Q [] from q) p [] _ _ (FrA.of hp) k2 c2 upd_same (k.sub.free hp) rfl .nil
theorem sv_asgK {te : TE} {m : Env → M (List (Key × D))} {i : Nat} (h : EvK S te m) : SvD S X (tAsg te (gName i)) (fun ρ => M.bnd (m (mask ρ)) fun es => M.ret (.nx (ρ.set i (some (.od es))))) := fun B H0 G0 σ H ρ E ⟨G, A, r⟩ q =>
  h B σ H G (mask ρ) _ r.ok r.mask ((m (mask ρ)).mono (fun es hd p kvs H1 G1 n k1 c1 h1 g1 e1 r1 => by
    have r' := r.step k1 c1
    exact (show ∀ σ H, Rs S B H0 G0 σ H (ρ.set i (some (.od es))) → E.nx σ H from hd) _ _ ⟨G1, _, r'.own (s := .od es) rfl (r.ch.fr _ n) h1 g1 ⟨e1, r1⟩ (fun j t e w z => by
      obtain ⟨_, _, _, o, ho, hw⟩ := r.ow j t e w
      exact n.ne ho (plainO.nt hw.pl) z) i⟩) q)
def putD (es : List (Key × D)) (k : Key) (d : D) : List (Key × D) :=
  if (es.any fun kv => decide (kv.1 = k)) = true then es.map (fun kv => if kv.1 = k then (kv.1, d) else kv) else es ++ [(k, d)]
theorem put_of {G : Hp} {k : Key} {v : V} {d : D} (rv : Rp S B G v d) {kvs : List (Key × V)} {es : List (Key × D)} (h : kvs.map (·.1) = es.map (·.1)) (r : RpA S B G (kvs.map (·.2)) (es.map (·.2))) : (putK kvs k v).map (·.1) = (putD es k d).map (·.1) ∧ RpA S B G ((putK kvs k v).map (·.2)) ((putD es k d).map (·.2)) := by
  have ha : (kvs.any fun kv => decide (kv.1 = k)) = (es.any fun kv => decide (kv.1 = k)) := by
    have e1 : ∀ l : List (Key × V), (l.any fun kv => decide (kv.1 = k)) = ((l.map (·.1)).any fun x => decide (x = k)) := fun l => by rw [List.any_map]; rfl
    have e2 : ∀ l : List (Key × D), (l.any fun kv => decide (kv.1 = k)) = ((l.map (·.1)).any fun x => decide (x = k)) := fun l => by rw [List.any_map]; rfl
    rw [e1, e2, h]
  unfold putK putD
  rw [ha]
  split
  · rename_i hh
    clear ha hh
    induction kvs generalizing es with
    | nil =>
      cases es with
      | nil => exact ⟨rfl, .nil⟩
      | cons _ _ => cases h
    | cons p kvs ih =>
      cases es with
      | nil => cases h
      | cons q es =>
        simp only [List.map_cons, List.cons.injEq] at h
        cases r with
        | cons r1 r2 =>
          obtain ⟨i1, i2⟩ := ih h.2 r2
          simp only [List.map_cons, h.1]
          by_cases e : q.1 = k
          · simp only [if_pos e]
            exact ⟨by rw [i1], .cons rv i2⟩
          · simp only [if_neg e]
            exact ⟨by rw [i1, h.1], .cons r1 i2⟩
  · simp only [List.map_append, List.map_cons, List.map_nil]
    exact ⟨by rw [h], r.append (.cons rv .nil)⟩
theorem putD_len (es : List (Key × D)) (k : Key) (d : D) : (putD es k d).length ≤ es.length + 1 := by
  unfold putD
  split
  · rw [List.length_map]; omega
  · rw [List.length_append]; exact Nat.le_refl _
/-- {k: v for ..} -/
def dcM (f : D → M (Option (Key × D))) : List D → List (Key × D) → M (List (Key × D))
  | [], acc => M.ret acc
  | d :: ds, acc => M.bnd (f d) fun o => match o with
    | some (k, v) => dcM f ds (putD acc k v)
    | none => dcM f ds acc
def dcF (b : D → Env → M Env) (mt : Env → M Bool) (mk mv : Env → M D) (ρ : Env) (d : D) : M (Option (Key × D)) :=
  M.bnd (b d ρ) fun ρ' => M.bnd (mt ρ') fun t => if t = true then M.bnd (mk ρ') fun y => M.bnd (mv ρ') fun z => M.bnd (M.opt (keyOf y)) fun k => M.ret (some (k, z)) else M.ret none
theorem ek_dc {wi : TI} {g : TG} {tt : TT} {tk tv : TE} {vs js : List Nat} {mi : Env → M (List D)} {b : D → Env → M Env} {mt : Env → M Bool} {mk mv : Env → M D} (hj : ∀ j ∈ js, j ∈ vs) (hi : EiD S wi mi) (hg : EgD S g b js) (ht : EvT S tt mt) (hk : EvD S tk mk) (hv : EvD S tv mv) :
    EvK S (tDc wi g tt tk tv vs) (fun ρ => M.bnd (mi ρ) fun ds => M.bnd (M.req (ds.length ≤ 100000)) fun _ => dcM (dcF b mt mk mv (wipeE ρ vs)) ds []) := fun B σ H G ρ Q k er q =>
  hi B σ H G ρ _ k er ((mi ρ).mono (fun ds hd J H1 G1 k1 c1 wk Dl nD => by
    have nDH : FrA H Dl := c1.fr _ (FrA.of nD)
    have nb : ∀ q, B.bq ≠ some (Dl, q) := fun q e => k.ne e nDH rfl
    have aw := k.away nDH
    refine ⟨fun i m L => m = ds.length - i ∧ i ≤ ds.length ∧ ∃ GL acc done, Ok B L GL ∧ Ch B H1 G1 L GL ∧ L Dl = some (.dK acc) ∧ GL Dl = none ∧ acc.map (·.1) = done.map (·.1) ∧ RpA S B GL (acc.map (·.2)) (done.map (·.2)) ∧ done.length ≤ i ∧ (dcM (dcF b mt mk mv (wipeE ρ vs)) (ds.drop i) done).run (Rs3 S B H G Q), ⟨_, rfl, Nat.zero_le _, ?_⟩, ?_⟩
    · obtain ⟨k2, c2⟩ := k1.lay nD (.dK [])
      exact ⟨G1, [], [], k2, c2, upd_same, k1.sub.free nD, rfl, .nil, Nat.le_refl _, hd.2⟩
    · rintro i m L ⟨rfl, hi', GL, acc, done, kL, cL, hD, gD, eD, rD, hdl, hr⟩
      rcases Nat.lt_or_ge i ds.length with hlt | hge
      · refine .inr ⟨wk.go i L GL kL cL.ext hlt, fun L' => (i + 1) ≤ ds.length ∧ ∃ GL acc done, Ok B L' GL ∧ Ch B H1 G1 L' GL ∧ L' Dl = some (.dK acc) ∧ GL Dl = none ∧ acc.map (·.1) = done.map (·.1) ∧ RpA S B GL (acc.map (·.2)) (done.map (·.2)) ∧ done.length ≤ i + 1 ∧ (dcM (dcF b mt mk mv (wipeE ρ vs)) (ds.drop (i + 1)) done).run (Rs3 S B H G Q), fun L' hL => ⟨_, by omega, rfl, hL.1, hL.2⟩, fun x L' y => ?_⟩
        obtain ⟨GY, kY, cY, rY⟩ := wk.yl i L GL x L' kL cL.ext hlt y
        obtain ⟨hDY, gDY⟩ := cY.mine hD gD rfl nb
        have eDr : ds.drop i = ds[i] :: ds.drop (i + 1) := List.drop_eq_getElem_cons hlt
        rw [eDr] at hr
        have cHY := cL.trans cY
        refine hg B (wipe σ vs) L' GY (wipeE ρ vs) x ds[i] _ kY ((er.mono (c1.trans cHY).ext).wipe vs) rY (M.mono _ (fun ρ' hρ σ' er' ag => ?_) hr)
        refine ⟨by rw [ag.wipe hj, wipe_idem], ?_⟩
        refine ht B σ' L' GY ρ' _ kY er' (M.mono _ (fun t htt L3 G3 k3 c3 => ?_) hρ)
        obtain ⟨hD3, gD3⟩ := c3.mine hDY gDY rfl nb
        cases t with
        | false => exact ⟨hlt, G3, acc, done, k3, cHY.trans c3, hD3, gD3, eD, rD.mono (cY.trans c3).ext, by omega, htt⟩
        | true =>
          refine hk B σ' L3 G3 ρ' _ k3 (er'.mono c3.ext) (M.mono _ (fun y' hy v4 L4 G4 k4 c4 r4 => ?_) htt)
          obtain ⟨hD4, gD4⟩ := c4.mine hD3 gD3 rfl nb
          refine hv B σ' L4 G4 ρ' _ k4 (er'.mono (c3.trans c4).ext) (M.mono _ (fun z' hz v5 L5 G5 k5 c5 r5 => ?_) hy)
          obtain ⟨hD5, gD5⟩ := c5.mine hD4 gD4 rfl nb
          obtain ⟨kk, hkk, hz⟩ := M.run_opt hz
          have ra := rD.mono (((cY.trans c3).trans c4).trans c5).ext
          obtain ⟨pe, pr⟩ := put_of (k := kk) r5 eD ra
          refine ⟨acc, kk, rp_keyOf hkk r4, hD5, ?_, hlt, G5, putK acc kk v5, putD done kk z', k5.upd gD5 (fun u e => by rw [hD5] at e; cases e; rfl) aw, (((cHY.trans c3).trans c4).trans c5).upd (FrA.of nD), upd_same, gD5, pe, pr, ?_, hz⟩
          · have e := congrArg List.length eD
            rw [List.length_map, List.length_map] at e
            rw [e]
            have := hd.1
            exact Nat.lt_of_lt_of_le (show done.length < 100000 by omega) (by decide)
          · have := putD_len done kk z'
            omega
      · obtain rfl : i = ds.length := by omega
        refine .inl ⟨wk.st L GL kL cL.ext, ?_⟩
        rw [List.drop_length] at hr
        exact (show Rs3 S B H G Q done from hr) Dl acc L GL nDH kL (c1.trans cL) hD gD eD rD) q)
def ownK (ρ : Ev) (i : Nat) : M (List (Key × D)) := match ρ[i]? with
  | some (some (.od es)) => M.ret es
  | _ => M.fail
theorem ownK_run {ρ : Ev} {i : Nat} {Q : List (Key × D) → Prop} (h : (ownK ρ i).run Q) : ∃ es, ρ[i]? = some (some (.od es)) ∧ Q es := by
  unfold ownK at h
  split at h
  · exact ⟨_, by assumption, h⟩
  · exact h.elim
/-- x[k] = v, x a dict of one's own -/
theorem sv_dput {i : Nat} {ty tv : TE} {my mv : Env → M D} (hy : EvD S ty my) (hv : EvD S tv mv) : SvD S X (sDPut (tVar i) ty tv) (fun ρ => M.bnd (mv (peek ρ)) fun v => M.bnd (M.req (scD v = true)) fun _ => M.bnd (ownK ρ i) fun es => M.bnd (M.req (es.length < 100000)) fun _ => M.bnd (my (peek ρ)) fun y => M.bnd (M.opt (keyOf y)) fun k => M.ret (.nx (ρ.set i (some (.od (putD es k v)))))) := fun B H0 G0 σ H ρ E ⟨G, A, r⟩ q => by
  obtain ⟨Gp, kp, er, c0, back⟩ := r.peek
  refine hv B σ H Gp (peek ρ) _ kp er ((mv (peek ρ)).mono (fun d hd v H1 G1 k1 c1 r1 => ?_) q)
  obtain ⟨G', r', s1, _⟩ := back H1 G1 k1 c1
  obtain ⟨hsc, hd⟩ := hd
  obtain ⟨es, e, hl, hd⟩ := ownK_run hd
  obtain ⟨Gp2, kp2, er2, c02, back2⟩ := r'.peek
  refine ⟨_, (r'.ow i _ e rfl).1, ?_⟩
  refine hy B σ H1 Gp2 (peek ρ) _ kp2 er2 ((my (peek ρ)).mono (fun y hh v2 H2 G2 k2 c2 r2 => ?_) hd)
  obtain ⟨kk, hk, hh⟩ := M.run_opt hh
  obtain ⟨G'', r'', s2, _⟩ := back2 H2 G2 k2 c2
  obtain ⟨_, h2, h3, o, h4, h5⟩ := r''.ow i _ e rfl
  cases o <;> first
    | exact h5.elim
    | (rename_i kvs
       have el := congrArg List.length h5.1
       rw [List.length_map, List.length_map] at el
       refine ⟨_, _, rfl, by rw [rp_keyOf hk r2]; exact DPut.k h4 (by rw [el]; exact Nat.lt_of_lt_of_le hl (by decide)), ?_⟩
       exact (show ∀ σ H, Rs S B H0 G0 σ H _ → E.nx σ H from hh) _ _ ⟨G'', A, r''.put (s' := .od (putD es kk d)) e rfl rfl (put_of (k := kk) (rp_sc hsc r1) h5.1 h5.2)⟩)
/-! ### name = {k: v for ..}, on one line -/
theorem sw_D {kx vx : Expr} {gs : List Comprehension} {scope : Scope} {pos py : Pos} {y : Str} {l : Nat} {env : PySem.Env} (h1 : env.scope.kind = .function) (h2 : env.scope.names.lookup y = some .local) (h3 : (py.line == pos.line) = true) (h4 : (scope.names.any fun (n, k) => n == y && (k == .local || k == .cell)) = false) : swapsWith (.DictComp kx vx gs scope pos) (some (.Name y py)) l env = pure true := by
  have e1 : env.blockKind = .function := by unfold Env.blockKind; rw [h1]; rfl
  have e2 : env.kindOf y = some .local := h2
  unfold swapsWith
  simp only [e1, e2, h4, Expr.pos, h3]
  rfl
theorem ps_setDc {X : Cx} {i : Nat} {y : Str} {py : Pos} {kx vx tg iter : Expr} {ifs : List Expr} {scope : Scope} {own : List (Str × Nat)} {pos spos : Pos} {wi : TI} {g : TG} {tt : TT} {tk tv : TE} (hc : X.calm = true) (hN : X.N.Nodup) (hy : X.N[i]? = some y) (hyl : X.env.scope.names.lookup y = some .local)
    (hw : swapsWith (.DictComp kx vx [⟨tg, iter, ifs, 0⟩] scope pos) (some (.Name y py)) spos.line X.env = pure true) (h1 : PI X tg iter wi) (h2 : BlkOk X.N X.env.scope scope own)
    (h3 : ∀ (s : Shared) (H : Hp) (C : Addr) (cl : List (Str × Addr)) (fp : List Addr), PG (X.blk s H scope (compEnvC scope cl C X.env) fp) tg g) (h4 : ∀ (s : Shared) (H : Hp) (C : Addr) (cl : List (Str × Addr)) (fp : List Addr), PTs (X.blk s H scope (compEnvC scope cl C X.env) fp) ifs tt)
    (h5 : ∀ (s : Shared) (H : Hp) (C : Addr) (cl : List (Str × Addr)) (fp : List Addr), PE (X.blk s H scope (compEnvC scope cl C X.env) fp) kx tk) (h6 : ∀ (s : Shared) (H : Hp) (C : Addr) (cl : List (Str × Addr)) (fp : List Addr), PE (X.blk s H scope (compEnvC scope cl C X.env) fp) vx tv) (h7 : ∀ x, foldedSetIterable iter X.env x = pure x := by intro _; rfl) :
    PS X (.Assign [.Name y py] (.DictComp kx vx [⟨tg, iter, ifs, 0⟩] scope pos) spos) (tAsg (tDc wi g tt tk tv (own.map (·.2))) (gName i)) := ⟨fun pins s σ H E I q => by
  rw [exec_Assign_Name_used _ _ _ _ hw]
  have q : tDc wi g tt tk tv (own.map (·.2)) σ H (fun x H1 => gName i x σ H1 E.nx) := q
  refine wpAny_bind (wpAny_standAt (wpAny_bind (show wpAny _ X.A (do let _ ← comprehension (.DictComp kx vx [⟨tg, iter, ifs, 0⟩] scope pos) scope X.env (firstIterPos [⟨tg, iter, ifs, 0⟩] pos) newDict false (eval iter X.env) (some (assign (.Name y py) X.env))) _ _ s from wpAny_bind (thn (dc_core (Qf := fun _ z => SP X pins E .next z) hc hN I h1 h2 h3 h4 h5 h6 h7 q fun L C z m J I2 q2 hn f => ?_) fun _ z hz => wpAny_pure (wpAny_pure hz)))))
  refine (show wpAny _ _ (assign (.Name y py) X.env (.ref L)) _ _ _ from wpAny_assign_Name (store_ok2 (v := V.ref L) I2 hN hy (.inl hyl) rfl (fun s2 I3 ⟨a, sb, ha⟩ => ?_) (.inr hyl)))
  obtain ⟨u0, u1, u2, u3, u4, u5⟩ := f
  refine ⟨m, hn.sameBut sb (ha.elim (fun z => by rw [z]; exact u1) fun z e => u4 y a z e.symm), fun z3 sb3 => ⟨_, J, I3.turned (t' := s2.toks) (fun b o hb e => (sb3.2 b hb).trans e) u0 u1 u3 u4 u5, q2⟩⟩⟩
end Dv
namespace Dv
open PySem PySem.Spec PyProof.Rows L2 Sg
variable {S : Base} {B : Bo S} {X : XK}
/-! ### the greatest, the least of a list; a number of a truth; a tuple of a list -/
def max1M : List D → M D
  | [.lst es] => M.bnd (M.choose fun js : List Int => es = js.map D.int ∧ 0 < js.length) fun js => M.bnd (M.all fun m => m ∈ js ∧ ∀ y, y ∈ js → y ≤ m) fun m => M.ret (.int m)
  | _ => M.fail
def min1M : List D → M D
  | [.lst es] => M.bnd (M.choose fun js : List Int => es = js.map D.int ∧ 0 < js.length) fun js => M.bnd (M.all fun m => m ∈ js ∧ ∀ y, y ∈ js → m ≤ y) fun m => M.ret (.int m)
  | _ => M.fail
theorem r_max1 : RCD S (rMax S.K) max1M := fun B H G vs ds Q k r h => by
  unfold max1M at h
  split at h
  · obtain ⟨js, ⟨rfl, hl⟩, h⟩ := h
    cases r with
    | cons a b =>
      cases b
      cases a with
      | lst ha hr =>
        rw [ints_of hr] at ha
        exact ⟨_, js, rfl, SqL.of (k.sub _ _ ha), hl, fun m h1 h2 => Rs1.now k (show Rs1 S B H G Q (.int m) from h m ⟨h1, h2⟩) (.int m)⟩
  · exact h.elim
theorem r_min1 : RCD S (rMin S.K) min1M := fun B H G vs ds Q k r h => by
  unfold min1M at h
  split at h
  · obtain ⟨js, ⟨rfl, hl⟩, h⟩ := h
    cases r with
    | cons a b =>
      cases b
      cases a with
      | lst ha hr =>
        rw [ints_of hr] at ha
        exact ⟨_, js, rfl, SqL.of (k.sub _ _ ha), hl, fun m h1 h2 => Rs1.now k (show Rs1 S B H G Q (.int m) from h m ⟨h1, h2⟩) (.int m)⟩
  · exact h.elim
def intM : List D → M D
  | [.int i] => M.ret (.int i)
  | [.bl b] => M.ret (.int (if b then 1 else 0))
  | _ => M.fail
theorem r_int : RCD S (fun xs H Q => (∃ i, xs = [V.int i] ∧ Q (.int i) H) ∨ ∃ k, xs = [V.bl k] ∧ Q (.int (if k then 1 else 0)) H) intM := fun B H G vs ds Q k r h => by
  unfold intM at h
  split at h
  · cases r with
    | cons a b => cases b; cases a; exact .inl ⟨_, rfl, Rs1.now k h (.int _)⟩
  · cases r with
    | cons a b => cases b; cases a; exact .inr ⟨_, rfl, Rs1.now k h (.int _)⟩
  · exact h.elim
def tupM : List D → M D
  | [.lst l] => M.ret (.tup l)
  | [.tup l] => M.ret (.tup l)
  | _ => M.fail
theorem r_tup : RCD S (fun xs H Q => ∃ p ys, xs = [V.ref p] ∧ ((SqL S.K H p ys ∧ ∀ l, H l = none → Q (.ref l) (upd H l (.tup ys))) ∨ (SqT S.K H p ys ∧ Q (.ref p) H))) tupM := fun B H G vs ds Q k r h => by
  unfold tupM at h
  split at h
  · cases r with
    | cons a b =>
      cases b
      cases a with
      | lst ha hr =>
        refine ⟨_, _, rfl, .inl ⟨SqL.of (k.sub _ _ ha), fun p hp => ?_⟩⟩
        obtain ⟨k2, c2⟩ := k.put hp (.tup _) (fun _ z => nomatch z)
        exact (show Rs1 S B H G Q (.tup _) from h) _ _ _ k2 c2 (.tup (SqT.of upd_same) (hr.mono c2.ext))
  · cases r with
    | cons a b =>
      cases b
      cases a with
      | tup ha hr => exact ⟨_, _, rfl, .inr ⟨sub_tup k.sub ha, Rs1.now k h (.tup ha hr)⟩⟩
  · exact h.elim
theorem max1_go (es : List D) : max1M [.lst es] = M.bnd (M.choose fun js : List Int => es = js.map D.int ∧ 0 < js.length) fun js => M.bnd (M.all fun m => m ∈ js ∧ ∀ y, y ∈ js → y ≤ m) fun m => M.ret (.int m) := rfl
theorem min1_go (es : List D) : min1M [.lst es] = M.bnd (M.choose fun js : List Int => es = js.map D.int ∧ 0 < js.length) fun js => M.bnd (M.all fun m => m ∈ js ∧ ∀ y, y ∈ js → m ≤ y) fun m => M.ret (.int m) := rfl
theorem int_i (i : Int) : intM [.int i] = M.ret (.int i) := rfl
theorem int_b (b : Bool) : intM [.bl b] = M.ret (.int (if b then 1 else 0)) := rfl
theorem tup_l (l : List D) : tupM [.lst l] = M.ret (.tup l) := rfl
theorem tup_t (l : List D) : tupM [.tup l] = M.ret (.tup l) := rfl
section
variable {Y : Cx} {K : PySem.W.Frag}
theorem dv_max1 (h : Y.K = K) (hc : Y.calm = true) : CallR Y (.builtin "max") (rMax K) := by subst h; exact cr_max hc
theorem dv_min1 (h : Y.K = K) (hc : Y.calm = true) : CallR Y (.builtin "min") (rMin K) := by subst h; exact cr_min hc
end
/-! ### a walk over numbered things -/
def enD : Nat → List D → List D
  | _, [] => []
  | i, d :: l => .tup [.int i, d] :: enD (i + 1) l
theorem enD_len : ∀ (l : List D) (i : Nat), (enD i l).length = l.length
  | [], _ => rfl
  | _ :: l, i => congrArg (· + 1) (enD_len l (i + 1))
theorem enD_get : ∀ (l : List D) (i j : Nat), (enD i l)[j]? = (l[j]?).map fun d => .tup [.int (i + j : Nat), d]
  | [], i, j => by simp [enD]
  | d :: l, i, 0 => rfl
  | d :: l, i, j + 1 => by
    show (enD (i + 1) l)[j]? = _
    rw [enD_get l (i + 1) j, List.getElem?_cons_succ, show i + 1 + j = i + (j + 1) by omega]
theorem wk_en {a : Addr} {xs : List V} {G : Hp} {ds : List D} (ha : G a = some (.lst xs)) (r : RpA S B G xs ds) : WkD S B (Ite S.K a) G (enD 0 ds) := by
  have hl := r.length
  refine ⟨fun i L GL k s h => ?_, fun L GL k s => ?_, fun i L GL x L' k s h y => ?_⟩
  · rw [enD_len] at h
    exact ⟨xs, _, SqL.of (k.sub _ _ (s _ _ ha)), List.getElem?_eq_getElem (by omega)⟩
  · rw [enD_len]
    exact ⟨xs, SqL.of (k.sub _ _ (s _ _ ha)), by omega⟩
  · obtain ⟨T, v, rfl, hT, rfl, hv⟩ := y
    rw [enD_len] at h
    have hx := hv xs (SqL.of (k.sub _ _ (s _ _ ha)))
    obtain ⟨d, h1, h2⟩ := r.getV hx
    obtain ⟨k2, c2⟩ := k.put hT (.tup [.int (i : Nat), v]) (fun _ z => nomatch z)
    refine ⟨_, k2, c2, ?_⟩
    have e : (enD 0 ds)[i]'(by rw [enD_len]; exact h) = .tup [.int (i : Nat), d] := by
      have e1 := enD_get ds 0 i
      rw [h1, List.getElem?_eq_getElem (by rw [enD_len]; exact h)] at e1
      rw [Option.some.inj e1, Nat.zero_add]
    rw [e]
    exact .tup (SqT.of upd_same) (.cons (.int _) (.cons ((h2.mono s).mono c2.ext) .nil))
def enM : List D → M (List D)
  | [.lst l] => M.ret (enD 0 l)
  | _ => M.fail
theorem enM_go (l : List D) : enM [.lst l] = M.ret (enD 0 l) := rfl
theorem ei_en {ta : TA} {m : Env → M (List D)} (h : EvA S ta m) : EiD S (iEnA S.K ta) (fun ρ => M.bnd (m ρ) enM) := fun B σ H G ρ R k er q =>
  h B σ H G ρ _ k er ((m ρ).mono (fun ds hd vs H1 G1 k1 c1 r1 => by
    unfold enM at hd
    split at hd
    · cases r1 with
      | cons a b =>
        cases b
        cases a with
        | lst ha hr => exact ⟨_, _, rfl, .inl ⟨SqL.of (k1.sub _ _ ha), hd _ H1 G1 k1 c1 (wk_en ha hr)⟩⟩
    · exact hd.elim) q)
theorem pi_enK {X : Cx} {K : PySem.W.Frag} (hK : X.K = K) {e : Expr} {ta : TA} {p pos tpos : Pos} {elts : List Expr} {kk : Nat} (hg : Gl X "enumerate") (hm : X.mg "enumerate" = none) (ha : PA X [e] ta) (hs : starEach [e] X.env = [(false, eval e X.env)] := by rfl) :
    PI X (.Tuple elts kk tpos) (.Call (.Name "enumerate" p) [e] [] pos) (iEnA K ta) := by subst hK; exact pi_enA hg hm ha hs
end Dv
/-! != where a class has its own == alone -/
namespace Nq
open PySem PySem.W PySem.Calls PyProof.Rows Builtin L2
section
variable {prog : Program} {w : World} {A : Around} {E : Value → Shared → Prop} {s : Shared} {K : Frag} {x y C L f : Addr} {h₀ : Heap} {m : Str → Option Value} {ox oy : Obj} {od od' : Option Obj} {name : Str} {id : String}
theorem ifB {M : Model} {args : List Value} {R : Option Value → Shared → Prop} (Xh : K.In s.heap) (It : InstAt s.heap x ox C od) (e : findIn K (.ref C) name = some (some (.builtin id))) (hb : ∀ u, bindSpecial (.builtin id) u = pure (.builtin id, [u]))
    (go : wpAny M A (call (.builtin id) (.ref x :: args)) (fun u => R (some u)) E s) : wpAny M A (callSpecialIfBound? (.ref x) name args) R E s := by
  have last : wpAny M A (call (.builtin id) ([.ref x] ++ args) >>= fun u => pure (some u)) R E s := wpAny_bind (wpAny_mono go (fun u s2 g => wpAny_pure g) fun _ _ g => g)
  simp only [callSpecialIfBound?, bindSpecialIfBound?]
  refine wpAny_holding (wpAny_bind (wpAny_bind (wpAny_bind (It.type.here ((looks_findIn Xh e).here (wpAny_bind (wpAny_askSetting (wpAny_ite ?_))))))))
  split
  · exact wpAny_bind (by rw [hb]; exact wpAny_pure (wpAny_pure last))
  · exact wpAny_tryCatch (wpAny_bind (by rw [hb]; exact wpAny_pure (wpAny_pure last)))
theorem ne_in (hu : A.units < cLine) (Xh : K.In s.heap) (It : InstAt s.heap x ox C od) (e : findIn K (.ref C) "__eq__" = some (some (.ref f))) (hf : isFn K (.ref f) = true) {R : Fin → Shared → Prop}
    (go : wpAny (model prog w) A (call (.ref f) [.ref x, .ref y]) (fun u s2 => ∃ b, u = .bool b ∧ R (.done (.ret (.bool (!b)))) s2) E s) : wpAny (model prog w) A (Builtin.«object.__ne__» ⟨[.ref x, .ref y], []⟩) R E s := by
  unfold Builtin.«object.__ne__»
  repeat (first
    | with_reducible refine wpAny_cRoomFor hu ?_
    | refine wpAny_bind (m := callSpecialIfBound? (.ref x) (Str.ofString "__eq__") [.ref y]) (ifBound_K Xh It e hf (wpAny_mono go (fun u s2 g => by
        obtain ⟨b, rfl, g⟩ := g
        repeat (first | exact g | exact wpAny_pure g | exact wpAny_truthy_bool g | (refine wpAny_bind (m := truthy (.bool _)) (wpAny_truthy_bool ?_)) | wp_step)) fun _ _ g => g))
    | wp_step)
theorem ne_try (hu : A.units + 1 < cLine) (Xh : K.In s.heap) (It : InstAt s.heap x ox C od) (e1 : findIn K (.ref C) "__ne__" = some (some (.builtin "object.__ne__"))) (e2 : findIn K (.ref C) "__eq__" = some (some (.ref f))) (hf : isFn K (.ref f) = true) (ho : subIn K (.ref C) (.type "object") = some true) {R : Option Value → Shared → Prop}
    (go : wpAny (model prog w) A.in1 (call (.ref f) [.ref x, .ref y]) (fun u s2 => ∃ b, u = .bool b ∧ R (some (.bool (!b))) s2) E s) : wpAny (model prog w) A (tryCompare (.ref x) "__ne__" (.ref y)) R E s := by
  simp only [tryCompare]
  have ci : Looks (model prog w) s.heap (isInstance (.ref x) (.type "object")) true := It.type.andThen (looks_subIn Xh ho)
  refine wpAny_bind (ifB Xh It e1 F.cmp_object.ne.bind (wpAny_call (codeAny_call_builtin F.cmp_object.ne.plain F.cmpEntry_ne (check_slot F.cmpKind_ne F.cmpSplit_ne ci (F.cmpArgs_ne _ _) (ne_in (A := A.in1) hu Xh It e2 hf (wpAny_mono go (fun u s2 g => ?_) fun _ _ g => g))))))
  obtain ⟨b, rfl, g⟩ := g
  first | exact ⟨b, rfl, wpAny_pure g⟩ | exact ⟨b, rfl, wpAny_pure (wpAny_pure g)⟩ | exact ⟨b, rfl, g⟩
theorem ne_K (hu : A.units + 1 < cLine) (Xh : K.In s.heap) (It : InstAt s.heap x ox C od) (Iy : InstAt s.heap y oy C od') (e1 : findIn K (.ref C) "__ne__" = some (some (.builtin "object.__ne__"))) (e2 : findIn K (.ref C) "__eq__" = some (some (.ref f))) (hf : isFn K (.ref f) = true) (ho : subIn K (.ref C) (.type "object") = some true) {R : Value → Shared → Prop}
    (go : wpAny (model prog w) A.in1 (call (.ref f) [.ref x, .ref y]) (fun u s2 => ∃ b, u = .bool b ∧ R (.bool (!b)) s2) E s) : wpAny (model prog w) A (richCompare .NotEq (.ref x) (.ref y)) R E s := by
  unfold richCompare
  simp only [oneThing_ref]
  refine wpAny_holding (wpAny_bind (wpAny_cRoomFor (Nat.lt_of_succ_lt hu) ?_))
  rw [cmpInfo_NotEq]
  dsimp only
  refine wpAny_bind (It.type.here (wpAny_bind (Iy.type.here ?_)))
  rw [show (Value.ref C != Value.ref C) = false by simp]
  simp only [Bool.false_eq_true, if_false]
  refine wpAny_bind (wpAny_pure ?_)
  simp only [Bool.false_eq_true, if_false]
  refine wpAny_bind (ne_try hu Xh It e1 e2 hf ho (wpAny_mono go (fun u s2 g => ?_) fun _ _ g => g))
  obtain ⟨b, rfl, g⟩ := g
  first | exact ⟨b, rfl, wpAny_pure g⟩ | exact ⟨b, rfl, wpAny_pure (wpAny_pure g)⟩
end
/-- x != y of instances whose own == tells True -/
def rNeI (C : Addr) (R : Addr → Addr → Hp → Prop) : R2 := fun x y H Q => DIns C R x y H ∧ ∀ H', Ext H H' → Q (.bl false) H'
section
variable {X : Cx} {n : Nat}
theorem op_neI {CX : CXT} {K : Frag} {C f : Addr} {fd : FuncData} {ps : List Str} {R : Addr → Addr → Hp → Prop} {E : XK} (hK : X.K = K) (F : FnOk X.prog X.w K X.mg X.base CX n f fd ps (spEq R)) (e1 : findIn K (.ref C) "__ne__" = some (some (.builtin "object.__ne__"))) (e2 : findIn K (.ref C) "__eq__" = some (some (.ref f))) (hf : isFn K (.ref f) = true) (ho : subIn K (.ref C) (.type "object") = some true)
    (hb : Binds K fd ps []) (hx : Passes CX X E) (hr : Room (n + 1) X.A) : OpR X (compareOp .NotEq) (rNeI C R) := by
  subst hK
  intro pins s σ H vx vy v u Q I rx ry hq
  obtain ⟨⟨a, b, dx, dy, fs, gs, rfl, rfl, ha, hb', hR⟩, q⟩ := hq
  cases rx
  cases ry
  obtain ⟨_, J, _⟩ := ins_get I.hok ha
  obtain ⟨_, J', _⟩ := ins_get I.hok hb'
  obtain ⟨_, J, _⟩ := J.look
  obtain ⟨_, J', _⟩ := J'.look
  have sb : L2.Sub X (n + 1) X.A := ⟨hr, rfl⟩
  have sb1 := sb.in1
  show wpAny (model X.prog X.w) X.A (richCompare .NotEq (.ref a) (.ref b)) (EP X pins σ Q) X.xe s
  refine ne_K ?_ I.kIn J J' e1 e2 hf ho ?_
  · have := hr.units
    omega
  have sp : spEq R [.ref a, .ref b] H (fun v H' => v = .bl true ∧ Ext H H') E := ⟨a, b, rfl, hR, fun H' z => ⟨rfl, z⟩⟩
  have ev : Env0 X.prog X.w X.K X.mg X.base X.A.in1 X.stack s H := by
    have z := I.env0
    exact ⟨by rw [sb1.fr]; exact z.frames, z.mod, z.bs, z.bsz, z.funs, z.frf, z.hok, z.bare⟩
  have two : Vals [V.ref a, V.ref b] [Value.ref a, Value.ref b] := .cons rfl (.cons rfl .nil)
  have bd := hb s [.ref a, .ref b] I.kIn (by simpa using F.len _ _ _ _ sp)
  refine wpAny_call (codeAny_mono (F.run X.A.in1 X.stack s H ⟨[.ref a, .ref b], []⟩ [.ref a, .ref b] [.ref a, .ref b] _ E sb1.room ev (by simpa using bd) two sp) fun r s' g => ?_)
  cases r with
  | error z => exact hx pins σ H s z s' I g
  | ok fl =>
    cases fl with
    | ret z =>
      obtain ⟨zz, H', I', rz, ez, ex⟩ := I.after g
      subst ez
      cases rz
      exact ⟨true, rfl, .bl false, H', I', rfl, q H' ex⟩
    | next => exact False.elim g
    | brk => exact False.elim g
    | cont => exact False.elim g
end
end Nq
namespace Dv
open PySem PySem.Spec PyProof.Rows L2 RZ Sg Tm Wb
local macro_rules | `(tactic| walk_at "r2") => `(tactic| first | with_reducible exact r_I0 | with_reducible exact r_I | with_reducible exact r_eq | with_reducible exact r_ne | with_reducible exact r_isN | with_reducible exact r_notN | with_reducible exact r_ixL | with_reducible exact r_ixT | with_reducible exact r_ixQ | with_reducible exact r_eqD | with_reducible exact r_neD | with_reducible exact r_inD | with_reducible exact r_notInD | with_reducible exact r_isB | with_reducible exact r_notB)
local macro_rules | `(tactic| walk_at "r2l") => `(tactic| first | with_reducible exact r_cat)
local macro_rules | `(tactic| walk_at "rc") => `(tactic| first | with_reducible exact r_len | with_reducible exact r_all)
local macro_rules | `(tactic| walk_at "rcl") => `(tactic| first | with_reducible exact r_list)
local macro_rules | `(tactic| walk_at "eo") => `(tactic| first | with_reducible exact eo_none | (with_reducible apply eo_some; walk_at "ed"))
local macro_rules | `(tactic| walk_at "ea") => `(tactic| first | with_reducible exact ea_nil | (with_reducible apply ea_star; walk_at "ed"; walk_at "ea") | (with_reducible apply ea_cons; walk_at "ed"; walk_at "ea"))
local macro_rules | `(tactic| walk_at "et") => `(tactic| first
  | with_reducible exact et_yes
  | (with_reducible apply et_test; walk_at "ed") | (with_reducible apply et_B; walk_at "ed") | (with_reducible apply et_not; walk_at "et")
  | (with_reducible apply et_and; walk_at "et"; walk_at "et") | (with_reducible apply et_or; walk_at "et"; walk_at "et"))
local macro_rules | `(tactic| walk_at "eg") => `(tactic| first | with_reducible exact eg_name | (with_reducible apply eg_tup; walk_at "egs"))
local macro_rules | `(tactic| walk_at "egs") => `(tactic| first | with_reducible exact eg_nil | (with_reducible apply eg_cons; walk_at "eg"; walk_at "egs"))
local macro_rules | `(tactic| walk_at "es") => `(tactic| first | with_reducible exact es_name | (with_reducible apply es_tup; walk_at "ess"))
local macro_rules | `(tactic| walk_at "ess") => `(tactic| first | with_reducible exact es_nil | (with_reducible apply es_cons; walk_at "es"; walk_at "ess"))
local macro_rules | `(tactic| walk_at "ei") => `(tactic| first | (with_reducible apply ei_list; walk_at "ed") | (with_reducible apply ei_tup; walk_at "ed") | (with_reducible apply ei_rng1; walk_at "ea") | (with_reducible apply ei_rng2; walk_at "ea") | (with_reducible apply ei_str; walk_at "ed"))
local macro_rules | `(tactic| walk_at "el") => `(tactic| first
  | (with_reducible apply el_lst; walk_at "ea")
  | (focus (with_reducible apply el_lc; rotate_left; walk_at "ei"; walk_at "eg"; walk_at "et"; walk_at "ed"; decide))
  | (with_reducible apply el_op; walk_at "r2l"; walk_at "ed"; walk_at "ed")
  | (with_reducible apply el_cb; walk_at "rcl"; walk_at "ea")
  | (with_reducible apply el_sl; walk_at "ed"; walk_at "eo"; walk_at "eo")
  | (with_reducible apply el_call; walk_at "ea")
  | walk_at "el+"
  | (with_reducible apply el_meth; decide; walk_at "ed"; walk_at "ea"))
local macro_rules | `(tactic| walk_at "ed") => `(tactic| first
  | with_reducible exact ed_var | with_reducible exact ed_c
  | (with_reducible apply ed_op; walk_at "r2"; walk_at "ed"; walk_at "ed")
  | (with_reducible apply ed_call; walk_at "ea")
  | (with_reducible apply ed_callX; walk_at "ea")
  | (with_reducible apply ed_tup; walk_at "ea")
  | (with_reducible apply ed_if; walk_at "et"; walk_at "ed"; walk_at "ed")
  | (with_reducible apply ed_cb; walk_at "rc"; walk_at "ea")
  | (with_reducible apply ed_un r_U; walk_at "ed")
  | (with_reducible apply ed_chain; walk_at "r2"; walk_at "r2"; walk_at "ed"; walk_at "ed"; walk_at "ed")
  | (with_reducible apply ed_andV; walk_at "ed"; walk_at "ed") | (with_reducible apply ed_orV; walk_at "ed"; walk_at "ed")
  | (with_reducible apply ed_meth; decide; walk_at "ed"; walk_at "ea")
  | walk_at "ed+"
  | (with_reducible apply EvL.d; walk_at "el"))
local macro_rules | `(tactic| walk_at "svF") => `(tactic| first
  | (with_reducible apply sv_seq; walk_at "svF"; walk_at "svF")
  | (with_reducible apply sv_asg; walk_at "ed")
  | (with_reducible apply sv_if; walk_at "et"; walk_at "svF"; walk_at "svF")
  | (with_reducible apply sv_for; walk_at "ei"; walk_at "es"; walk_at "svF")
  | walk_at "sv")
local macro_rules | `(tactic| walk_at "sv") => `(tactic| first
  | with_reducible exact sv_next | with_reducible exact sv_break | with_reducible exact sv_cont | with_reducible exact sv_never | with_reducible exact sv_retN
  | (with_reducible apply sv_seq; walk_at "sv"; walk_at "sv")
  | (with_reducible apply sv_asgL; walk_at "el")
  | (with_reducible apply sv_asg; walk_at "ed")
  | (with_reducible apply sv_if; walk_at "et"; walk_at "sv"; walk_at "sv")
  | (with_reducible apply sv_for; walk_at "ei"; walk_at "es"; walk_at "sv")
  | (with_reducible apply sv_par; walk_at "ea")
  | (with_reducible apply sv_app; walk_at "ed")
  | (with_reducible apply sv_ret; walk_at "ed")
  | (with_reducible apply sv_asgT; walk_at "ed"; walk_at "es")
  | (with_reducible apply sv_drop; walk_at "ed"))
local macro_rules | `(tactic| walk_at "rc") => `(tactic| first | with_reducible exact r_len | with_reducible exact r_all | with_reducible exact r_max | with_reducible exact r_min)
local macro_rules | `(tactic| walk_at "rcl") => `(tactic| first | with_reducible exact r_list | with_reducible exact r_sort)
local macro_rules | `(tactic| walk_at "el+") => `(tactic| (with_reducible apply el_listRg; walk_at "ed"))
local macro_rules | `(tactic| walk_at "edm") => `(tactic| first | (with_reducible apply ed_index; walk_at "ed"; walk_at "ed") | (with_reducible apply ed_dget2; walk_at "ed"; walk_at "ed"; walk_at "ed") | with_reducible exact ed_disp2 | (with_reducible apply ed_chain; walk_at "r2"; walk_at "r2"; walk_at "ed"; walk_at "ed"; walk_at "ed"))
local macro_rules | `(tactic| walk_at "ed+") => `(tactic| walk_at "edm")
local macro_rules | `(tactic| walk_at "ex") => `(tactic| first | (with_reducible apply ex_callI; walk_at "ea") | (with_reducible apply ex_call; walk_at "ea") | (with_reducible apply ex_opL; walk_at "r2"; walk_at "ex"; walk_at "ed"))
local macro_rules | `(tactic| walk_at "svM") => `(tactic| first
  | (with_reducible apply sv_seq; walk_at "svM"; walk_at "svM")
  | (with_reducible apply sv_ins; walk_at "ed")
  | (with_reducible apply sv_asg; walk_at "ed")
  | (with_reducible apply sv_asgX; walk_at "ex")
  | (with_reducible apply sv_retX; walk_at "ex")
  | (with_reducible apply sv_if; walk_at "et"; walk_at "svM"; walk_at "svM")
  | (with_reducible apply sv_for; walk_at "ei"; walk_at "es"; walk_at "svM")
  | walk_at "sv")
local macro_rules | `(tactic| walk_at "rc") => `(tactic| first | with_reducible exact r_len | with_reducible exact r_lenK | with_reducible exact r_all | with_reducible exact r_max | with_reducible exact r_min | with_reducible exact r_max1 | with_reducible exact r_min1 | with_reducible exact r_int | with_reducible exact r_tup)
local macro_rules | `(tactic| walk_at "ei") => `(tactic| first | (with_reducible apply ei_list; walk_at "ed") | (with_reducible apply ei_tup; walk_at "ed") | (with_reducible apply ei_rng1; walk_at "ea") | (with_reducible apply ei_rng2; walk_at "ea") | (with_reducible apply ei_str; walk_at "ed") | (with_reducible apply ei_en; walk_at "ea"))
local macro_rules | `(tactic| walk_at "edk") => `(tactic| first | (with_reducible apply ed_mk2; walk_at "ea"; walk_at "ea") | (with_reducible apply ed_dget; walk_at "ed"; walk_at "ed") | (with_reducible apply ed_din; walk_at "ed"; walk_at "ed") | (with_reducible apply ed_dnin; walk_at "ed"; walk_at "ed") | walk_at "edm")
local macro_rules | `(tactic| walk_at "ed+") => `(tactic| walk_at "edk")
local macro_rules | `(tactic| walk_at "ek") => `(tactic| first | with_reducible exact ek_new | (focus (with_reducible apply ek_dc; rotate_left; walk_at "ei"; walk_at "eg"; walk_at "et"; walk_at "ed"; walk_at "ed"; decide)))
local macro_rules | `(tactic| walk_at "svN") => `(tactic| first
  | (with_reducible apply sv_seq; walk_at "svN"; walk_at "svN")
  | (with_reducible apply sv_ins; walk_at "ed")
  | (with_reducible apply sv_asgK; walk_at "ek")
  | (with_reducible apply sv_asg; walk_at "ed")
  | (with_reducible apply sv_asgX; walk_at "ex")
  | (with_reducible apply sv_dropX; walk_at "ex")
  | (with_reducible apply sv_retX; walk_at "ex")
  | (with_reducible apply sv_dput; walk_at "ed"; walk_at "ed")
  | (with_reducible apply sv_raise rfl; decide; walk_at "ed")
  | (with_reducible apply sv_if; walk_at "et"; walk_at "svN"; walk_at "svN")
  | (with_reducible apply sv_for; walk_at "ei"; walk_at "es"; walk_at "svN")
  | walk_at "sv")
/-! ### ties led to other points -/
def mvK (f : Int → Int) (k : Ks) : Ks := k.map fun x => match x with | .inl i => .inl (f i) | .inr c => .inr c
def inK (p : Int → Bool) (k : Ks) : Bool := k.all fun x => match x with | .inl i => p i | .inr _ => true
def nuK (g : (Int → Bool) × (Int → Int)) (l : List Ks) : List Ks := (l.filter (inK g.1)).map (mvK g.2)
def revK : Ks → Ks
  | [c, x, y] => [c, y, x]
  | k => k
theorem mvA (f : Int → Int) (c : Str) (x y : Int) : mvK f [.inr c, .inl x, .inl y] = [.inr c, .inl (f x), .inl (f y)] := rfl
theorem mvM (f : Int → Int) (c : Str) (x : Int) : mvK f [.inr c, .inl x] = [.inr c, .inl (f x)] := rfl
theorem inA (p : Int → Bool) (c : Str) (x y : Int) : inK p [.inr c, .inl x, .inl y] = (p x && p y) := by simp [inK]
theorem inM (p : Int → Bool) (c : Str) (x : Int) : inK p [.inr c, .inl x] = p x := by simp [inK]
theorem nu_A {n m : Int} {l : List Ks} {g : (Int → Bool) × (Int → Int)} (h : ∀ k ∈ l, AK n k) (hg : ∀ i, 0 ≤ i → i < n → g.1 i = true → 0 ≤ g.2 i ∧ g.2 i < m) : ∀ k ∈ nuK g l, AK m k := fun k hk => by
  obtain ⟨k', hk', rfl⟩ := List.mem_map.mp hk
  obtain ⟨h1, h2⟩ := List.mem_filter.mp hk'
  obtain ⟨c, x, y, rfl, hc, x0, x1, y0, y1⟩ := h k' h1
  rw [inA, Bool.and_eq_true] at h2
  obtain ⟨a, b⟩ := hg x x0 x1 h2.1
  obtain ⟨a', b'⟩ := hg y y0 y1 h2.2
  exact ⟨c, _, _, rfl, hc, a, b, a', b'⟩
theorem nu_M {n m : Int} {l : List Ks} {g : (Int → Bool) × (Int → Int)} (h : ∀ k ∈ l, MK n k) (hg : ∀ i, 0 ≤ i → i < n → g.1 i = true → 0 ≤ g.2 i ∧ g.2 i < m) : ∀ k ∈ nuK g l, MK m k := fun k hk => by
  obtain ⟨k', hk', rfl⟩ := List.mem_map.mp hk
  obtain ⟨h1, h2⟩ := List.mem_filter.mp hk'
  obtain ⟨c, x, rfl, hc, x0, x1⟩ := h k' h1
  rw [inM] at h2
  obtain ⟨a, b⟩ := hg x x0 x1 h2
  exact ⟨c, _, rfl, hc, a, b⟩
theorem nu_len (g : (Int → Bool) × (Int → Int)) (l : List Ks) : (nuK g l).length ≤ l.length := by
  unfold nuK
  rw [List.length_map]
  exact List.length_filter_le ..
theorem good_nu {n m : Int} {As Ms : List Ks} {g : (Int → Bool) × (Int → Int)} (w : WebK n As Ms) (h0 : 0 ≤ m) (h1 : m ≤ 81) (hg : ∀ i, 0 ≤ i → i < n → g.1 i = true → 0 ≤ g.2 i ∧ g.2 i < m) : GoodW m (nuK g As) (nuK g Ms) := by
  have a := nu_len g As
  have b := nu_len g Ms
  have c := w.la
  have d := w.lm
  exact ⟨h0, h1, nu_A w.ka hg, nu_M w.km hg, by omega, by omega⟩
theorem web_of {m : Int} {as ms : List Ks} {u : List Ks × List Ks} (g : GoodW m as ms) (la : as.length ≤ 60) (lm : ms.length ≤ 60) (h : SrtK as u.1 ∧ SrtK ms u.2) : WebK m u.1 u.2 := by
  have p1 := h.1.len
  have p2 := h.2.len
  exact ⟨g.1, fun k hk => g.2.2.1 k (h.1.of k hk), fun k hk => g.2.2.2.1 k (h.2.of k hk), h.1.self, h.2.self, by omega, by omega⟩
theorem web_nu {n m : Int} {As Ms : List Ks} {g : (Int → Bool) × (Int → Int)} {u : List Ks × List Ks} (w : WebK n As Ms) (gw : GoodW m (nuK g As) (nuK g Ms)) (h : SrtK (nuK g As) u.1 ∧ SrtK (nuK g Ms) u.2) : WebK m u.1 u.2 := by
  have a := nu_len g As
  have b := nu_len g Ms
  have c := w.la
  have d := w.lm
  exact web_of gw (by omega) (by omega) h
/-- two ways to sort the same ties -/
theorem two_srt {m : Int} {as ms : List Ks} {u v : List Ks × List Ks} (g : GoodW m as ms) (h : SrtK as u.1 ∧ SrtK ms u.2) (h' : SrtK as v.1 ∧ SrtK ms v.2) : u = v := by
  have e1 := srtK_eq h.1 h'.1 fun k hk => (g.2.2.1 k hk).tie (show m ≤ 128 by have := g.2.1; omega)
  have e2 := srtK_eq h.2 h'.2 fun k hk => (g.2.2.2.1 k hk).tie (show m ≤ 128 by have := g.2.1; omega)
  cases u; cases v
  simp only at e1 e2
  rw [e1, e2]
theorem nu_congr {P : Ks → Prop} {l : List Ks} {g g' : (Int → Bool) × (Int → Int)} {n : Int} (h : ∀ k ∈ l, AK n k ∨ MK n k) (e : ∀ i, 0 ≤ i → i < n → g.1 i = g'.1 i ∧ g.2 i = g'.2 i) : nuK g l = nuK g' l := by
  have hh : ∀ k ∈ l, inK g.1 k = inK g'.1 k ∧ mvK g.2 k = mvK g'.2 k := fun k hk => by
    rcases h k hk with ⟨c, x, y, rfl, hc, x0, x1, y0, y1⟩ | ⟨c, x, rfl, hc, x0, x1⟩
    · rw [inA, inA, mvA, mvA, (e x x0 x1).1, (e y y0 y1).1, (e x x0 x1).2, (e y y0 y1).2]
      exact ⟨rfl, rfl⟩
    · rw [inM, inM, mvM, mvM, (e x x0 x1).1, (e x x0 x1).2]
      exact ⟨rfl, rfl⟩
  unfold nuK
  rw [List.filter_congr fun k hk => (hh k hk).1]
  exact List.map_congr_left fun k hk => (hh k (List.mem_filter.mp hk).1).2
theorem nu_all {l : List Ks} {f : Int → Int} : nuK (fun _ => true, f) l = l.map (mvK f) := by
  unfold nuK
  rw [List.filter_eq_self.mpr fun k _ => ?_]
  unfold inK
  exact List.all_eq_true.mpr fun x _ => by cases x <;> rfl
/-- those kept -/
def kf (js : List Int) : (Int → Bool) × (Int → Int) := (fun i => decide (i ∈ js), fun i => (idxI js i : Int))
/-! ### dicts of numbers -/
def kE : Nat → List Int → List (Key × D)
  | _, [] => []
  | i, j :: l => (.inl j, .int (i : Int)) :: kE (i + 1) l
theorem kE_len : ∀ (l : List Int) (i : Nat), (kE i l).length = l.length
  | [], _ => rfl
  | _ :: l, i => congrArg (· + 1) (kE_len l (i + 1))
theorem kE_val (x : Int) : ∀ (l : List Int) (i : Nat), valD (kE i l) (.inl x) = if x ∈ l then some (.int ((i + idxI l x : Nat) : Int)) else none
  | [], i => rfl
  | j :: l, i => by
    have ih := kE_val x l (i + 1)
    unfold valD at ih ⊢
    unfold kE
    by_cases e : j = x
    · subst e
      simp [List.find?_cons, idxI]
    · have ne : (Sum.inl j : Key) ≠ .inl x := fun z => e (Sum.inl.inj z)
      simp only [List.find?_cons, decide_eq_false ne]
      rw [ih]
      by_cases hx : x ∈ l
      · rw [if_pos hx, if_pos (List.mem_cons_of_mem _ hx)]
        have e9 : idxI (j :: l) x = idxI l x + 1 := by
          show (if j = x then 0 else _) = _
          rw [if_neg e]
        rw [e9, show i + 1 + idxI l x = i + (idxI l x + 1) by omega]
      · rw [if_neg hx, if_neg fun z => (List.mem_cons.mp z).elim (fun z => e z.symm) hx]
theorem kE_snoc (j : Int) : ∀ (l : List Int) (i : Nat), kE i (l ++ [j]) = kE i l ++ [(.inl j, .int ((i + l.length : Nat) : Int))]
  | [], i => rfl
  | a :: l, i => by
    show (_ :: kE (i + 1) (l ++ [j])) = _
    rw [kE_snoc j l (i + 1), show i + 1 + l.length = i + (a :: l).length by simp; omega]
    rfl
theorem valD_any (k : Key) : ∀ es : List (Key × D), (es.any fun kv => decide (kv.1 = k)) = (valD es k).isSome
  | [] => rfl
  | p :: es => by
    have ih := valD_any k es
    unfold valD at ih ⊢
    rw [List.any_cons, List.find?_cons]
    by_cases e : p.1 = k
    · simp [e]
    · simp only [decide_eq_false e, Bool.false_or]
      exact ih
theorem putD_new {es : List (Key × D)} {k : Key} {d : D} (h : valD es k = none) : putD es k d = es ++ [(k, d)] := by
  unfold putD
  rw [valD_any, h]
  rfl
theorem valD_cons (p : Key × D) (es : List (Key × D)) (k : Key) : valD (p :: es) k = if p.1 = k then some p.2 else valD es k := by
  unfold valD
  rw [List.find?_cons]
  by_cases e : p.1 = k
  · simp [e]
  · simp [e]
theorem valD_rep (k j : Key) (d : D) : ∀ l : List (Key × D), valD (l.map fun kv => if kv.1 = k then (kv.1, d) else kv) j = if j = k then (if (valD l k).isSome = true then some d else none) else valD l j
  | [] => by simp [valD]
  | p :: l => by
    rw [List.map_cons, valD_cons, valD_cons, valD_cons, valD_rep k j d l]
    by_cases e : p.1 = k
    · rw [if_pos e, if_pos e]
      by_cases ej : j = k
      · rw [if_pos (by rw [e, ej]), if_pos ej]
        rfl
      · rw [if_neg (by rw [e]; exact fun z => ej z.symm), if_neg ej, if_neg ej, if_neg (by rw [e]; exact fun z => ej z.symm)]
    · rw [if_neg e, if_neg e]
      by_cases ej : j = k
      · rw [if_neg (by rw [ej]; exact e), if_pos ej, if_pos ej]
      · rw [if_neg ej, if_neg ej]
theorem valD_app (p : Key × D) (j : Key) : ∀ l : List (Key × D), valD (l ++ [p]) j = if (valD l j).isSome = true then valD l j else if p.1 = j then some p.2 else none
  | [] => by
    rw [List.nil_append, valD_cons]
    simp [valD]
  | q :: l => by
    rw [List.cons_append, valD_cons, valD_cons, valD_app p j l]
    by_cases e : q.1 = j
    · rw [if_pos e, if_pos e]
      rfl
    · rw [if_neg e, if_neg e]
theorem valD_put (k j : Key) (d : D) (es : List (Key × D)) : valD (putD es k d) j = if j = k then some d else valD es j := by
  unfold putD
  rw [valD_any]
  cases hs : (valD es k).isSome with
  | true =>
    rw [if_pos rfl, valD_rep, hs]
    rfl
  | false =>
    rw [if_neg (by decide), valD_app]
    by_cases ej : j = k
    · subst ej
      rw [hs, if_neg (by decide), if_pos rfl, if_pos rfl]
    · rw [if_neg ej, if_neg (show ¬ k = j from fun z => ej z.symm)]
      cases valD es j <;> rfl
theorem dc_run {f : D → M (Option (Key × D))} {h : Int → Int} : ∀ {js : List Int} {acc : List (Key × D)}, (∀ i ∈ js, (f (.int i)).run fun o => o = some (.inl i, .int (h i))) → (dcM f (js.map D.int) acc).run fun es => es.length ≤ acc.length + js.length ∧ ∀ x, valD es (.inl x) = if x ∈ js then some (.int (h x)) else valD acc (.inl x)
  | [], acc, _ => ⟨Nat.le_refl _, fun x => by simp⟩
  | i :: js, acc, hh => (f (.int i)).mono (fun o ho => by
      subst ho
      refine M.mono _ (fun es he => ?_) (dc_run (js := js) (acc := putD acc (.inl i) (.int (h i))) fun x hx => hh x (List.mem_cons_of_mem _ hx))
      have := putD_len acc (.inl i) (.int (h i))
      refine ⟨by rw [List.length_cons]; omega, fun x => ?_⟩
      rw [he.2 x, valD_put]
      by_cases h1 : x ∈ js
      · rw [if_pos h1, if_pos (List.mem_cons_of_mem _ h1)]
      · rw [if_neg h1]
        by_cases h2 : x = i
        · subst h2
          rw [if_pos rfl, if_pos (List.mem_cons_self ..)]
        · rw [if_neg fun z => h2 (Sum.inl.inj z), if_neg fun z => (List.mem_cons.mp z).elim h2 h1]) (hh i (List.mem_cons_self ..))
theorem rng_ints (n : Nat) : rngD 0 n = ((List.range n).map fun (i : Nat) => (i : Int)).map D.int := by
  unfold rngD
  rw [List.map_map]
  refine List.map_congr_left fun i _ => ?_
  show D.int _ = D.int _
  rw [Int.zero_add]
theorem mem_rng {n : Nat} {x : Int} : x ∈ (List.range n).map (fun (i : Nat) => (i : Int)) ↔ 0 ≤ x ∧ x < n := by
  rw [List.mem_map]
  constructor
  · rintro ⟨i, hi, rfl⟩
    have := List.mem_range.mp hi
    omega
  · rintro ⟨h0, h1⟩
    exact ⟨x.toNat, List.mem_range.mpr (by omega), by omega⟩
theorem dg_go {es : List (Key × D)} {i : Int} {z : D} {Q : D → Prop} (h : valD es (.inl i) = some z) (q : Q z) : (dgM (.dk es) (.int i)).run Q := by
  show (M.opt (valD es (.inl i))).run Q
  rw [h]
  exact q
theorem din_go (es : List (Key × D)) (i : Int) : dinM false (.int i) (.dk es) = M.ret (.bl (valD es (.inl i)).isSome) := rfl
theorem lenK_go (es : List (Key × D)) : lenK [.dk es] = M.ret (.int es.length) := rfl
theorem tieA' (c : Str) (x y : Int) : tieD [.inr c, .inl x, .inl y] = .tup [.str c, .int x, .int y] := rfl
theorem tieM' (c : Str) (x : Int) : tieD [.inr c, .inl x] = .tup [.str c, .int x] := rfl
theorem mk2_go (n : Int) (es fs : List D) : mk2 [.int n] [.lst es, .lst fs] = mkM n es fs := rfl
theorem pts_go (n : Int) (As Ms : List Ks) : ptsM [.web n As Ms] = M.ret (.int n) := rfl
theorem arr_go (n : Int) (As Ms : List Ks) : arrM [.web n As Ms] = M.ret (As.map tieD) := rfl
theorem mrk_go (n : Int) (As Ms : List Ks) : mrkM [.web n As Ms] = M.ret (Ms.map tieD) := rfl
section
variable {P : Program} {w : World} {K : PySem.W.Frag} {mg : Str → Option Value} {base : Heap} {C : Addr} {T : List (Addr × Str)} {cls : Str → Addr}
/-! ### turned -/
end
end Dv
namespace Dv
open PySem PySem.Spec PyProof.Rows L2 RZ Sg Tm Wb
local macro_rules | `(tactic| walk_at "r2") => `(tactic| first | with_reducible exact r_I0 | with_reducible exact r_I | with_reducible exact r_eq | with_reducible exact r_ne | with_reducible exact r_isN | with_reducible exact r_notN | with_reducible exact r_ixL | with_reducible exact r_ixT | with_reducible exact r_ixQ | with_reducible exact r_eqD | with_reducible exact r_neD | with_reducible exact r_inD | with_reducible exact r_notInD | with_reducible exact r_isB | with_reducible exact r_notB)
local macro_rules | `(tactic| walk_at "r2l") => `(tactic| first | with_reducible exact r_cat)
local macro_rules | `(tactic| walk_at "rc") => `(tactic| first | with_reducible exact r_len | with_reducible exact r_all)
local macro_rules | `(tactic| walk_at "rcl") => `(tactic| first | with_reducible exact r_list)
local macro_rules | `(tactic| walk_at "eo") => `(tactic| first | with_reducible exact eo_none | (with_reducible apply eo_some; walk_at "ed"))
local macro_rules | `(tactic| walk_at "ea") => `(tactic| first | with_reducible exact ea_nil | (with_reducible apply ea_star; walk_at "ed"; walk_at "ea") | (with_reducible apply ea_cons; walk_at "ed"; walk_at "ea"))
local macro_rules | `(tactic| walk_at "et") => `(tactic| first
  | with_reducible exact et_yes
  | (with_reducible apply et_test; walk_at "ed") | (with_reducible apply et_B; walk_at "ed") | (with_reducible apply et_not; walk_at "et")
  | (with_reducible apply et_and; walk_at "et"; walk_at "et") | (with_reducible apply et_or; walk_at "et"; walk_at "et"))
local macro_rules | `(tactic| walk_at "eg") => `(tactic| first | with_reducible exact eg_name | (with_reducible apply eg_tup; walk_at "egs"))
local macro_rules | `(tactic| walk_at "egs") => `(tactic| first | with_reducible exact eg_nil | (with_reducible apply eg_cons; walk_at "eg"; walk_at "egs"))
local macro_rules | `(tactic| walk_at "es") => `(tactic| first | with_reducible exact es_name | (with_reducible apply es_tup; walk_at "ess"))
local macro_rules | `(tactic| walk_at "ess") => `(tactic| first | with_reducible exact es_nil | (with_reducible apply es_cons; walk_at "es"; walk_at "ess"))
local macro_rules | `(tactic| walk_at "ei") => `(tactic| first | (with_reducible apply ei_list; walk_at "ed") | (with_reducible apply ei_tup; walk_at "ed") | (with_reducible apply ei_rng1; walk_at "ea") | (with_reducible apply ei_rng2; walk_at "ea") | (with_reducible apply ei_str; walk_at "ed"))
local macro_rules | `(tactic| walk_at "el") => `(tactic| first
  | (with_reducible apply el_lst; walk_at "ea")
  | (focus (with_reducible apply el_lc; rotate_left; walk_at "ei"; walk_at "eg"; walk_at "et"; walk_at "ed"; decide))
  | (with_reducible apply el_op; walk_at "r2l"; walk_at "ed"; walk_at "ed")
  | (with_reducible apply el_cb; walk_at "rcl"; walk_at "ea")
  | (with_reducible apply el_sl; walk_at "ed"; walk_at "eo"; walk_at "eo")
  | (with_reducible apply el_call; walk_at "ea")
  | walk_at "el+"
  | (with_reducible apply el_meth; decide; walk_at "ed"; walk_at "ea"))
local macro_rules | `(tactic| walk_at "ed") => `(tactic| first
  | with_reducible exact ed_var | with_reducible exact ed_c
  | (with_reducible apply ed_op; walk_at "r2"; walk_at "ed"; walk_at "ed")
  | (with_reducible apply ed_call; walk_at "ea")
  | (with_reducible apply ed_callX; walk_at "ea")
  | (with_reducible apply ed_tup; walk_at "ea")
  | (with_reducible apply ed_if; walk_at "et"; walk_at "ed"; walk_at "ed")
  | (with_reducible apply ed_cb; walk_at "rc"; walk_at "ea")
  | (with_reducible apply ed_un r_U; walk_at "ed")
  | (with_reducible apply ed_chain; walk_at "r2"; walk_at "r2"; walk_at "ed"; walk_at "ed"; walk_at "ed")
  | (with_reducible apply ed_andV; walk_at "ed"; walk_at "ed") | (with_reducible apply ed_orV; walk_at "ed"; walk_at "ed")
  | (with_reducible apply ed_meth; decide; walk_at "ed"; walk_at "ea")
  | walk_at "ed+"
  | (with_reducible apply EvL.d; walk_at "el"))
local macro_rules | `(tactic| walk_at "svF") => `(tactic| first
  | (with_reducible apply sv_seq; walk_at "svF"; walk_at "svF")
  | (with_reducible apply sv_asg; walk_at "ed")
  | (with_reducible apply sv_if; walk_at "et"; walk_at "svF"; walk_at "svF")
  | (with_reducible apply sv_for; walk_at "ei"; walk_at "es"; walk_at "svF")
  | walk_at "sv")
local macro_rules | `(tactic| walk_at "sv") => `(tactic| first
  | with_reducible exact sv_next | with_reducible exact sv_break | with_reducible exact sv_cont | with_reducible exact sv_never | with_reducible exact sv_retN
  | (with_reducible apply sv_seq; walk_at "sv"; walk_at "sv")
  | (with_reducible apply sv_asgL; walk_at "el")
  | (with_reducible apply sv_asg; walk_at "ed")
  | (with_reducible apply sv_if; walk_at "et"; walk_at "sv"; walk_at "sv")
  | (with_reducible apply sv_for; walk_at "ei"; walk_at "es"; walk_at "sv")
  | (with_reducible apply sv_par; walk_at "ea")
  | (with_reducible apply sv_app; walk_at "ed")
  | (with_reducible apply sv_ret; walk_at "ed")
  | (with_reducible apply sv_asgT; walk_at "ed"; walk_at "es")
  | (with_reducible apply sv_drop; walk_at "ed"))
local macro_rules | `(tactic| walk_at "rc") => `(tactic| first | with_reducible exact r_len | with_reducible exact r_all | with_reducible exact r_max | with_reducible exact r_min)
local macro_rules | `(tactic| walk_at "rcl") => `(tactic| first | with_reducible exact r_list | with_reducible exact r_sort)
local macro_rules | `(tactic| walk_at "el+") => `(tactic| (with_reducible apply el_listRg; walk_at "ed"))
local macro_rules | `(tactic| walk_at "edm") => `(tactic| first | (with_reducible apply ed_index; walk_at "ed"; walk_at "ed") | (with_reducible apply ed_dget2; walk_at "ed"; walk_at "ed"; walk_at "ed") | with_reducible exact ed_disp2 | (with_reducible apply ed_chain; walk_at "r2"; walk_at "r2"; walk_at "ed"; walk_at "ed"; walk_at "ed"))
local macro_rules | `(tactic| walk_at "ed+") => `(tactic| walk_at "edm")
local macro_rules | `(tactic| walk_at "ex") => `(tactic| first | (with_reducible apply ex_callI; walk_at "ea") | (with_reducible apply ex_call; walk_at "ea") | (with_reducible apply ex_opL; walk_at "r2"; walk_at "ex"; walk_at "ed"))
local macro_rules | `(tactic| walk_at "svM") => `(tactic| first
  | (with_reducible apply sv_seq; walk_at "svM"; walk_at "svM")
  | (with_reducible apply sv_ins; walk_at "ed")
  | (with_reducible apply sv_asg; walk_at "ed")
  | (with_reducible apply sv_asgX; walk_at "ex")
  | (with_reducible apply sv_retX; walk_at "ex")
  | (with_reducible apply sv_if; walk_at "et"; walk_at "svM"; walk_at "svM")
  | (with_reducible apply sv_for; walk_at "ei"; walk_at "es"; walk_at "svM")
  | walk_at "sv")
local macro_rules | `(tactic| walk_at "rc") => `(tactic| first | with_reducible exact r_len | with_reducible exact r_lenK | with_reducible exact r_all | with_reducible exact r_max | with_reducible exact r_min | with_reducible exact r_max1 | with_reducible exact r_min1 | with_reducible exact r_int | with_reducible exact r_tup)
local macro_rules | `(tactic| walk_at "ei") => `(tactic| first | (with_reducible apply ei_list; walk_at "ed") | (with_reducible apply ei_tup; walk_at "ed") | (with_reducible apply ei_rng1; walk_at "ea") | (with_reducible apply ei_rng2; walk_at "ea") | (with_reducible apply ei_str; walk_at "ed") | (with_reducible apply ei_en; walk_at "ea"))
local macro_rules | `(tactic| walk_at "edk") => `(tactic| first | (with_reducible apply ed_mk2; walk_at "ea"; walk_at "ea") | (with_reducible apply ed_dget; walk_at "ed"; walk_at "ed") | (with_reducible apply ed_din; walk_at "ed"; walk_at "ed") | (with_reducible apply ed_dnin; walk_at "ed"; walk_at "ed") | walk_at "edm")
local macro_rules | `(tactic| walk_at "ed+") => `(tactic| walk_at "edk")
local macro_rules | `(tactic| walk_at "ek") => `(tactic| first | with_reducible exact ek_new | (focus (with_reducible apply ek_dc; rotate_left; walk_at "ei"; walk_at "eg"; walk_at "et"; walk_at "ed"; walk_at "ed"; decide)))
local macro_rules | `(tactic| walk_at "svN") => `(tactic| first
  | (with_reducible apply sv_seq; walk_at "svN"; walk_at "svN")
  | (with_reducible apply sv_ins; walk_at "ed")
  | (with_reducible apply sv_asgK; walk_at "ek")
  | (with_reducible apply sv_asg; walk_at "ed")
  | (with_reducible apply sv_asgX; walk_at "ex")
  | (with_reducible apply sv_dropX; walk_at "ex")
  | (with_reducible apply sv_retX; walk_at "ex")
  | (with_reducible apply sv_dput; walk_at "ed"; walk_at "ed")
  | (with_reducible apply sv_raise rfl; decide; walk_at "ed")
  | (with_reducible apply sv_if; walk_at "et"; walk_at "svN"; walk_at "svN")
  | (with_reducible apply sv_for; walk_at "ei"; walk_at "es"; walk_at "svN")
  | walk_at "sv")
def rmpM : List D → M Rx
  | [.int n, .int p] => if 0 ≤ p ∧ p < n then M.ret (.ok .non) else M.ret (.er ⟨"BadPoint", "number", .int p⟩)
  | _ => M.fail
theorem rmp_go (n p : Int) : rmpM [.int n, .int p] = if 0 ≤ p ∧ p < n then M.ret (.ok .non) else M.ret (.er ⟨"BadPoint", "number", .int p⟩) := rfl
theorem ouX_ok (ρ : Ev) (d : D) : ouX ρ (.ok d) = M.ret (.nx ρ) := rfl
theorem ouX_er (ρ : Ev) (x : Exn) : ouX ρ (.er x) = M.ret (.er x) := rfl
/-- those of a row that are wrong: not there, or there ahead of it -/
def wr (n : Int) : List Int → List Int → List Int
  | _, [] => []
  | done, j :: js => if (0 ≤ j ∧ j < n) ∧ j ∉ done then wr n (done ++ [j]) js else j :: wr n (done ++ [j]) js
theorem wr_at {n : Int} : ∀ {js done : List Int} {i : Nat} (h : i < js.length), (∀ m, (hm : m < i) → (0 ≤ js[m] ∧ js[m] < n) ∧ js[m] ∉ done ++ js.take m) → ¬ ((0 ≤ js[i] ∧ js[i] < n) ∧ js[i] ∉ done ++ js.take i) → (wr n done js).head? = some js[i]
  | j :: js, done, 0, h, _, hb => by
    simp only [List.getElem_cons_zero, List.take_zero, List.append_nil] at hb ⊢
    unfold wr
    rw [if_neg hb]
    rfl
  | j :: js, done, i + 1, h, hg, hb => by
    have g0 := hg 0 (Nat.succ_pos _)
    simp only [List.getElem_cons_zero, List.take_zero, List.append_nil] at g0
    unfold wr
    rw [if_pos g0]
    refine wr_at (js := js) (done := done ++ [j]) (i := i) (by simpa using h) (fun m hm => ?_) (by simpa using hb)
    have := hg (m + 1) (by omega)
    simpa using this
theorem wr_none {n : Int} : ∀ {js done : List Int}, (∀ m, (hm : m < js.length) → (0 ≤ js[m] ∧ js[m] < n) ∧ js[m] ∉ done ++ js.take m) → wr n done js = []
  | [], _, _ => rfl
  | j :: js, done, hg => by
    have g0 := hg 0 (Nat.succ_pos _)
    simp only [List.getElem_cons_zero, List.take_zero, List.append_nil] at g0
    unfold wr
    rw [if_pos g0]
    refine wr_none fun m hm => ?_
    have := hg (m + 1) (by simpa using hm)
    simpa using this
/-- how the points of a web of n points are numbered when two are made one -/
def spF (a b p : Int) : Int := if p = max a b then min a b else if p < max a b then p else p - 1
theorem spF_in {n a b p : Int} (ha : 0 ≤ a ∧ a < n) (hb : 0 ≤ b ∧ b < n) (ne : a ≠ b) (hp : 0 ≤ p ∧ p < n) : 0 ≤ spF a b p ∧ spF a b p < n - 1 := by
  unfold spF
  split
  · omega
  · split <;> omega
theorem kf_in {n : Int} {js : List Int} : ∀ i, 0 ≤ i → i < n → (kf js).1 i = true → 0 ≤ (kf js).2 i ∧ (kf js).2 i < (js.length : Int) := fun i _ _ h => by
  have h : decide (i ∈ js) = true := h
  have := idx_lt (of_decide_eq_true h)
  show 0 ≤ (idxI js i : Int) ∧ (idxI js i : Int) < _
  omega
theorem le_81 {n : Int} {js : List Int} {k : Nat} {hk : k ≤ js.length} (h0 : 0 ≤ n) (hn : n ≤ 81) (h : ∀ m, (hm : m < k) → (0 ≤ js[m] ∧ js[m] < n) ∧ js[m] ∉ [] ++ js.take m) : (k : Int) ≤ 81 := by
  have nd : (js.take k).Nodup := by
    clear hn
    induction k with
    | zero => rw [List.take_zero]; exact List.nodup_nil
    | succ k ih =>
      rw [take_snoc (by omega)]
      refine List.nodup_append.mpr ⟨ih (hk := by omega) fun m hm => h m (by omega), List.nodup_cons.mpr ⟨(fun z => nomatch z), List.nodup_nil⟩, fun a ha b hb e => ?_⟩
      subst e
      rw [List.mem_singleton.mp hb] at ha
      exact (h k (by omega)).2 (by rw [List.nil_append]; exact ha)
  have sb : ∀ x ∈ js.take k, x ∈ (List.range 81).map fun (i : Nat) => (i : Int) := fun x hx => by
    obtain ⟨m, hm, rfl⟩ := List.getElem_of_mem hx
    rw [List.length_take] at hm
    rw [List.getElem_take]
    have := (h m (by omega)).1
    exact mem_rng.mpr ⟨this.1, by omega⟩
  have := List.Nodup.length_le_of_subset nd sb
  rw [List.length_take, List.length_map, List.length_range] at this
  omega
theorem M.opt_go {α : Type} {o : Option α} {a : α} {Q : α → Prop} (h : o = some a) (q : Q a) : (M.opt o).run Q := by
  subst h
  exact q
theorem ownK_go (x y : Option Sl) (es : List (Key × D)) (r : Ev) : ownK (x :: y :: some (.od es) :: r) 2 = M.ret es := rfl
section
variable {P : Program} {w : World} {K : PySem.W.Frag} {mg : Str → Option Value} {base : Heap} {C : Addr} {T : List (Addr × Str)} {cls : Str → Addr}
end
end Dv
namespace Dv
open PySem PySem.Spec PyProof.Rows L2 RZ Sg Tm Wb
local macro_rules | `(tactic| walk_at "r2") => `(tactic| first | with_reducible exact r_I0 | with_reducible exact r_I | with_reducible exact r_eq | with_reducible exact r_ne | with_reducible exact r_isN | with_reducible exact r_notN | with_reducible exact r_ixL | with_reducible exact r_ixT | with_reducible exact r_ixQ | with_reducible exact r_eqD | with_reducible exact r_neD | with_reducible exact r_inD | with_reducible exact r_notInD | with_reducible exact r_isB | with_reducible exact r_notB)
local macro_rules | `(tactic| walk_at "r2l") => `(tactic| first | with_reducible exact r_cat)
local macro_rules | `(tactic| walk_at "rc") => `(tactic| first | with_reducible exact r_len | with_reducible exact r_all)
local macro_rules | `(tactic| walk_at "rcl") => `(tactic| first | with_reducible exact r_list)
local macro_rules | `(tactic| walk_at "eo") => `(tactic| first | with_reducible exact eo_none | (with_reducible apply eo_some; walk_at "ed"))
local macro_rules | `(tactic| walk_at "ea") => `(tactic| first | with_reducible exact ea_nil | (with_reducible apply ea_star; walk_at "ed"; walk_at "ea") | (with_reducible apply ea_cons; walk_at "ed"; walk_at "ea"))
local macro_rules | `(tactic| walk_at "et") => `(tactic| first
  | with_reducible exact et_yes
  | (with_reducible apply et_test; walk_at "ed") | (with_reducible apply et_B; walk_at "ed") | (with_reducible apply et_not; walk_at "et")
  | (with_reducible apply et_and; walk_at "et"; walk_at "et") | (with_reducible apply et_or; walk_at "et"; walk_at "et"))
local macro_rules | `(tactic| walk_at "eg") => `(tactic| first | with_reducible exact eg_name | (with_reducible apply eg_tup; walk_at "egs"))
local macro_rules | `(tactic| walk_at "egs") => `(tactic| first | with_reducible exact eg_nil | (with_reducible apply eg_cons; walk_at "eg"; walk_at "egs"))
local macro_rules | `(tactic| walk_at "es") => `(tactic| first | with_reducible exact es_name | (with_reducible apply es_tup; walk_at "ess"))
local macro_rules | `(tactic| walk_at "ess") => `(tactic| first | with_reducible exact es_nil | (with_reducible apply es_cons; walk_at "es"; walk_at "ess"))
local macro_rules | `(tactic| walk_at "ei") => `(tactic| first | (with_reducible apply ei_list; walk_at "ed") | (with_reducible apply ei_tup; walk_at "ed") | (with_reducible apply ei_rng1; walk_at "ea") | (with_reducible apply ei_rng2; walk_at "ea") | (with_reducible apply ei_str; walk_at "ed"))
local macro_rules | `(tactic| walk_at "el") => `(tactic| first
  | (with_reducible apply el_lst; walk_at "ea")
  | (focus (with_reducible apply el_lc; rotate_left; walk_at "ei"; walk_at "eg"; walk_at "et"; walk_at "ed"; decide))
  | (with_reducible apply el_op; walk_at "r2l"; walk_at "ed"; walk_at "ed")
  | (with_reducible apply el_cb; walk_at "rcl"; walk_at "ea")
  | (with_reducible apply el_sl; walk_at "ed"; walk_at "eo"; walk_at "eo")
  | (with_reducible apply el_call; walk_at "ea")
  | walk_at "el+"
  | (with_reducible apply el_meth; decide; walk_at "ed"; walk_at "ea"))
local macro_rules | `(tactic| walk_at "ed") => `(tactic| first
  | with_reducible exact ed_var | with_reducible exact ed_c
  | (with_reducible apply ed_op; walk_at "r2"; walk_at "ed"; walk_at "ed")
  | (with_reducible apply ed_call; walk_at "ea")
  | (with_reducible apply ed_callX; walk_at "ea")
  | (with_reducible apply ed_tup; walk_at "ea")
  | (with_reducible apply ed_if; walk_at "et"; walk_at "ed"; walk_at "ed")
  | (with_reducible apply ed_cb; walk_at "rc"; walk_at "ea")
  | (with_reducible apply ed_un r_U; walk_at "ed")
  | (with_reducible apply ed_chain; walk_at "r2"; walk_at "r2"; walk_at "ed"; walk_at "ed"; walk_at "ed")
  | (with_reducible apply ed_andV; walk_at "ed"; walk_at "ed") | (with_reducible apply ed_orV; walk_at "ed"; walk_at "ed")
  | (with_reducible apply ed_meth; decide; walk_at "ed"; walk_at "ea")
  | walk_at "ed+"
  | (with_reducible apply EvL.d; walk_at "el"))
local macro_rules | `(tactic| walk_at "svF") => `(tactic| first
  | (with_reducible apply sv_seq; walk_at "svF"; walk_at "svF")
  | (with_reducible apply sv_asg; walk_at "ed")
  | (with_reducible apply sv_if; walk_at "et"; walk_at "svF"; walk_at "svF")
  | (with_reducible apply sv_for; walk_at "ei"; walk_at "es"; walk_at "svF")
  | walk_at "sv")
local macro_rules | `(tactic| walk_at "sv") => `(tactic| first
  | with_reducible exact sv_next | with_reducible exact sv_break | with_reducible exact sv_cont | with_reducible exact sv_never | with_reducible exact sv_retN
  | (with_reducible apply sv_seq; walk_at "sv"; walk_at "sv")
  | (with_reducible apply sv_asgL; walk_at "el")
  | (with_reducible apply sv_asg; walk_at "ed")
  | (with_reducible apply sv_if; walk_at "et"; walk_at "sv"; walk_at "sv")
  | (with_reducible apply sv_for; walk_at "ei"; walk_at "es"; walk_at "sv")
  | (with_reducible apply sv_par; walk_at "ea")
  | (with_reducible apply sv_app; walk_at "ed")
  | (with_reducible apply sv_ret; walk_at "ed")
  | (with_reducible apply sv_asgT; walk_at "ed"; walk_at "es")
  | (with_reducible apply sv_drop; walk_at "ed"))
local macro_rules | `(tactic| walk_at "rc") => `(tactic| first | with_reducible exact r_len | with_reducible exact r_all | with_reducible exact r_max | with_reducible exact r_min)
local macro_rules | `(tactic| walk_at "rcl") => `(tactic| first | with_reducible exact r_list | with_reducible exact r_sort)
local macro_rules | `(tactic| walk_at "el+") => `(tactic| (with_reducible apply el_listRg; walk_at "ed"))
local macro_rules | `(tactic| walk_at "edm") => `(tactic| first | (with_reducible apply ed_index; walk_at "ed"; walk_at "ed") | (with_reducible apply ed_dget2; walk_at "ed"; walk_at "ed"; walk_at "ed") | with_reducible exact ed_disp2 | (with_reducible apply ed_chain; walk_at "r2"; walk_at "r2"; walk_at "ed"; walk_at "ed"; walk_at "ed"))
local macro_rules | `(tactic| walk_at "ed+") => `(tactic| walk_at "edm")
local macro_rules | `(tactic| walk_at "ex") => `(tactic| first | (with_reducible apply ex_callI; walk_at "ea") | (with_reducible apply ex_call; walk_at "ea") | (with_reducible apply ex_opL; walk_at "r2"; walk_at "ex"; walk_at "ed"))
local macro_rules | `(tactic| walk_at "svM") => `(tactic| first
  | (with_reducible apply sv_seq; walk_at "svM"; walk_at "svM")
  | (with_reducible apply sv_ins; walk_at "ed")
  | (with_reducible apply sv_asg; walk_at "ed")
  | (with_reducible apply sv_asgX; walk_at "ex")
  | (with_reducible apply sv_retX; walk_at "ex")
  | (with_reducible apply sv_if; walk_at "et"; walk_at "svM"; walk_at "svM")
  | (with_reducible apply sv_for; walk_at "ei"; walk_at "es"; walk_at "svM")
  | walk_at "sv")
local macro_rules | `(tactic| walk_at "rc") => `(tactic| first | with_reducible exact r_len | with_reducible exact r_lenK | with_reducible exact r_all | with_reducible exact r_max | with_reducible exact r_min | with_reducible exact r_max1 | with_reducible exact r_min1 | with_reducible exact r_int | with_reducible exact r_tup)
local macro_rules | `(tactic| walk_at "ei") => `(tactic| first | (with_reducible apply ei_list; walk_at "ed") | (with_reducible apply ei_tup; walk_at "ed") | (with_reducible apply ei_rng1; walk_at "ea") | (with_reducible apply ei_rng2; walk_at "ea") | (with_reducible apply ei_str; walk_at "ed") | (with_reducible apply ei_en; walk_at "ea"))
local macro_rules | `(tactic| walk_at "edk") => `(tactic| first | (with_reducible apply ed_mk2; walk_at "ea"; walk_at "ea") | (with_reducible apply ed_dget; walk_at "ed"; walk_at "ed") | (with_reducible apply ed_din; walk_at "ed"; walk_at "ed") | (with_reducible apply ed_dnin; walk_at "ed"; walk_at "ed") | walk_at "edm")
local macro_rules | `(tactic| walk_at "ed+") => `(tactic| walk_at "edk")
local macro_rules | `(tactic| walk_at "ek") => `(tactic| first | with_reducible exact ek_new | (focus (with_reducible apply ek_dc; rotate_left; walk_at "ei"; walk_at "eg"; walk_at "et"; walk_at "ed"; walk_at "ed"; decide)))
local macro_rules | `(tactic| walk_at "svN") => `(tactic| first
  | (with_reducible apply sv_seq; walk_at "svN"; walk_at "svN")
  | (with_reducible apply sv_ins; walk_at "ed")
  | (with_reducible apply sv_asgK; walk_at "ek")
  | (with_reducible apply sv_asg; walk_at "ed")
  | (with_reducible apply sv_asgX; walk_at "ex")
  | (with_reducible apply sv_dropX; walk_at "ex")
  | (with_reducible apply sv_retX; walk_at "ex")
  | (with_reducible apply sv_dput; walk_at "ed"; walk_at "ed")
  | (with_reducible apply sv_raise rfl; decide; walk_at "ed")
  | (with_reducible apply sv_if; walk_at "et"; walk_at "svN"; walk_at "svN")
  | (with_reducible apply sv_for; walk_at "ei"; walk_at "es"; walk_at "svN")
  | walk_at "sv")
theorem dcF_go {b : D → Dv.Env → M Dv.Env} {mt : Dv.Env → M Bool} {mk mv : Dv.Env → M D} {ρ : Dv.Env} {d : D} : dcF b mt mk mv ρ d = M.bnd (b d ρ) fun ρ' => M.bnd (mt ρ') fun t => if t = true then M.bnd (mk ρ') fun y => M.bnd (mv ρ') fun z => M.bnd (M.opt (keyOf y)) fun k => M.ret (some (k, z)) else M.ret none := rfl
theorem keyOf_int (i : Int) : keyOf (.int i) = some (.inl i) := rfl
theorem optS {α : Type} (a : α) : M.opt (some a) = M.ret a := rfl
structure Bm (mg : Str → Option Value) : Prop where
  range : mg "range" = none
  max : mg "max" = none
  min : mg "min" = none
theorem rev_inj {n : Int} {k k' : Ks} (h : AK n k) (h' : AK n k') (e : revK k = revK k') : k = k' := by
  obtain ⟨c, x, y, rfl, _⟩ := h
  obtain ⟨c', x', y', rfl, _⟩ := h'
  simp only [revK, List.cons.injEq] at e
  obtain ⟨e1, e2, e3, _⟩ := e
  rw [e1, e2, e3]
theorem rev_A {n : Int} {l : List Ks} (h : ∀ k ∈ l, AK n k) : ∀ k ∈ l.map revK, AK n k := fun k hk => by
  obtain ⟨k', hk', rfl⟩ := List.mem_map.mp hk
  obtain ⟨c, x, y, rfl, hc, x0, x1, y0, y1⟩ := h k' hk'
  exact ⟨c, y, x, rfl, hc, y0, y1, x0, x1⟩
theorem ownK_go4 (a b c d : Option Sl) (es : List (Key × D)) (r : Ev) : ownK (a :: b :: c :: d :: some (.od es) :: r) 4 = M.ret es := rfl
section
variable {P : Program} {w : World} {K : PySem.W.Frag} {mg : Str → Option Value} {base : Heap} {C : Addr} {T : List (Addr × Str)} {cls : Str → Addr}
abbrev s_law_moved : Stmt := topS 37
def lmvM : List D → M D
  | [.tup [.int n1, .lst a1, .lst m1], .int k, .lst es] => M.bnd (M.choose fun p : List Ks × List Ks × List Int => a1 = p.1.map tieD ∧ m1 = p.2.1.map tieD ∧ es = p.2.2.map D.int ∧ WebK n1 p.1 p.2.1 ∧ (p.2.2.length : Int) = n1 ∧ (∀ v ∈ p.2.2, 0 ≤ v ∧ v < k) ∧ 0 ≤ k ∧ k ≤ 81) fun p => M.bnd (M.all fun u : List Ks × List Ks => SrtK (p.1.map (mvK (img p.2.2))) u.1 ∧ SrtK (p.2.1.map (mvK (img p.2.2))) u.2) fun u => M.ret (mwD k u.1 u.2)
  | _ => M.fail
theorem len_lmv {ds : List D} {Q : _ → Prop} (h : (lmvM ds).run Q) : ds.length = 3 := by
  unfold lmvM at h
  split at h
  · rfl
  · exact h.elim
abbrev N_lmv : List Str := ["_law_m", "_law_many", "_law_seats", "_law_my_arrows", "_law_hue_here", "_law_one_here", "_law_other", "_law_sign_here", "_law_point"]
theorem sc_lmv : FnScope N_lmv ["_law_m", "_law_many", "_law_seats"] (defScope s_law_moved) := ⟨rfl, rfl, rfl, by decide +kernel, rfl, by decide +kernel, by decide +kernel⟩
theorem ok_lmv {f fU : Addr} {fd dU : FuncData} (F : Fun K "_law_moved" "_law_moved" s_law_moved f fd) (oU : Df P w K mg base 1 "_law_unlike" ["_law_some"] (spL (mkS K C T cls) unlM) fU dU) : FnOk P w K mg base CX0 2 f fd ["_law_m", "_law_many", "_law_seats"] (spD (mkS K C T cls) lmvM) := by
  refine F.ok sc_lmv (fun vs H Q E h => ?_) (fun cdv A outer s H vs Q E hr h => ?_)
  · obtain ⟨B, G, ds, _, r, h⟩ := h
    rw [r.length]
    exact len_lmv h
  · have hu5 : (A.deeper (envOfC "_law_moved" (defScope s_law_moved) s.heap.objs.size f cdv)).units + 65 < cLine := by
      have := hr.un
      omega
    have hu : (A.deeper (envOfC "_law_moved" (defScope s_law_moved) s.heap.objs.size f cdv)).units + 64 < cLine := by omega
    have hu1 : (A.deeper (envOfC "_law_moved" (defScope s_law_moved) s.heap.objs.size f cdv)).units + 1 < cLine := by omega
    refine ⟨_, (pss_cons (ps_setLc (i := 3) (own := [("_law_hue_here", 4), ("_law_one_here", 5), ("_law_other", 6)]) (g := gTup K 3 (gCons (gName 4) (gCons (gName 5) (gCons (gName 6) gNil)))) (tt := tYes) rfl sc_lmv.nd rfl rfl (sw_true rfl rfl rfl (by decide +kernel)) (di_list (K := K) rfl (pe_ix (dx_tup (K := K) rfl) (pv 0) pe_int (fun _ _ => rfl))) (blkOk_by (N := N_lmv) (sc := defScope s_law_moved) (by decide +kernel)) (fun _ _ _ _ _ => (dg_tup (K := K) (n := 3) rfl rfl (pgs_cons (pg_name (i := 4) sc_lmv.nd rfl (.inl rfl)) (pgs_cons (pg_name (i := 5) sc_lmv.nd rfl (.inl rfl)) (pgs_cons (pg_name (i := 6) sc_lmv.nd rfl (.inl rfl)) pgs_nil))))) (fun _ _ _ _ _ => pts_nil) (fun _ _ _ _ _ => (pe_tup (pa_cons (pv 4) (pa_cons (pe_ix (dx_list (K := K) rfl) (pv 2) (pv 5) (fun _ _ => rfl)) (pa_cons (pe_ix (dx_list (K := K) rfl) (pv 2) (pv 6) (fun _ _ => rfl)) pa_nil))))))
      (pss_one (ps_ret (pe_tup (pa_cons (pv 1) (pa_cons (pe_call oU.ok (hr.mono (by decide)) (by rfl) oU.gl oU.kp oU.bd .nil pass0 (pa_cons (pv 3) pa_nil)) (pa_cons (pe_call oU.ok (hr.mono (by decide)) (by rfl) oU.gl oU.kp oU.bd .nil pass0 (pa_cons (pe_lc (own := [("_law_sign_here", 7), ("_law_point", 8)]) (g := gTup K 2 (gCons (gName 7) (gCons (gName 8) gNil))) (tt := tYes) rfl sc_lmv.nd (di_list (K := K) rfl (pe_ix (dx_tup (K := K) rfl) (pv 0) pe_int (fun _ _ => rfl))) (blkOk_by (N := N_lmv) (sc := defScope s_law_moved) (by decide +kernel)) (fun _ _ _ _ _ => (dg_tup (K := K) (n := 2) rfl rfl (pgs_cons (pg_name (i := 7) sc_lmv.nd rfl (.inl rfl)) (pgs_cons (pg_name (i := 8) sc_lmv.nd rfl (.inl rfl)) pgs_nil)))) (fun _ _ _ _ _ => pts_nil) (fun _ _ _ _ _ => (pe_tup (pa_cons (pv 7) (pa_cons (pe_ix (dx_list (K := K) rfl) (pv 2) (pv 8) (fun _ _ => rfl)) pa_nil))))) pa_nil)) pa_nil))))))), ?_⟩
    refine run_D (X := E) (S := mkS K C T cls) (N := N_lmv) (by walk_at "svN") ?_ h
    intro ds Q hq
    unfold lmvM at hq
    split at hq
    · rename_i n1 a1 m1 k es
      obtain ⟨⟨A1, M1, js⟩, ⟨rfl, rfl, rfl, w, lj, hj, k0, k1⟩, hq⟩ := hq
      dsimp only at w lj hj hq
      have la := w.la
      have lm := w.lm
      have g : GoodW k (A1.map (mvK (img js))) (M1.map (mvK (img js))) := by
        have := good_nu (g := (fun _ => true, img js)) w k0 k1 fun i i0 i1 _ => img_in hj i0 (by omega)
        rw [nu_all, nu_all] at this
        exact this
      have e : startE N_lmv.length [.tup [.int n1, .lst (A1.map tieD), .lst (M1.map tieD)], .int k, .lst (js.map D.int)] = [some (.f (.tup [.int n1, .lst (A1.map tieD), .lst (M1.map tieD)])), some (.f (.int k)), some (.f (.lst (js.map D.int))), none, none, none, none, none, none] := rfl
      rw [e]
      simp only [run_bnd, run_ret, run_opt, run_req, run_all, run_choose, run_ite, then_nx, then_rt, then_rl, then_er, then_ct, then_bk, outD_rt, outD_rl, outD_nx, outL_rl, outX_rt, outX_rl, outX_nx, outX_er, mask_nil, mask_cons, mk0_f, mk0_o, mk0_od, mk0_ot, mk0_n, peek_nil, peek_cons, pk_f, pk_o, pk_od, pk_ot, pk_n, dOf_int, dOf_bl, dOf_str, dOf_non, opI0_int, opI_int, unI_int, asB_bl, asI_int, asL_lst, asT_tup, asW_web, eqS_int, eqS_str, ixL_lst, ixT_tup, ixQ_lst, ixQ_tup, lenD_lst, lenD_tup, listD_lst, listD_tup, catD_lst, rng1_int, rng2_int, sName_go, sTup_go, sCons_go, sNil_go, bTup_go, bCons_go, bNil_go, two_go, List.set_cons_zero, List.set_cons_succ, List.getElem?_cons_zero, List.getElem?_cons_succ, Option.join_some, atI_0, atI_1, atI_2, decide_eq_true_eq, wipeE, List.map_cons, List.map_nil, step_nx, step_ct, step_bk, step_rt, step_rl, step_er, vOf_int, vOf_str]
      refine ⟨by rw [List.length_map]; omega, ?_⟩
      refine ex_ret (M.sel_flt (p := fun _ => true) (g := fun d => match d with | .tup [c, .int x, .int y] => .tup [c, .int (img js x), .int (img js y)] | d => d) fun d hd => ?_) fun as has => ?_
      · obtain ⟨q, hk, rfl⟩ := List.mem_map.mp hd
        obtain ⟨c, x, y, rfl, hc, x0, x1, y0, y1⟩ := w.ka q hk
        simp only [lcF_go, tieA', img_atD x0 (show x < (js.length : Int) by omega), img_atD y0 (show y < (js.length : Int) by omega), run_bnd, run_ret, run_opt, run_req, run_all, run_choose, run_ite, then_nx, then_rt, then_rl, then_er, then_ct, then_bk, outD_rt, outD_rl, outD_nx, outL_rl, outX_rt, outX_rl, outX_nx, outX_er, mask_nil, mask_cons, mk0_f, mk0_o, mk0_od, mk0_ot, mk0_n, peek_nil, peek_cons, pk_f, pk_o, pk_od, pk_ot, pk_n, dOf_int, dOf_bl, dOf_str, dOf_non, opI0_int, opI_int, unI_int, asB_bl, asI_int, asL_lst, asT_tup, asW_web, eqS_int, eqS_str, ixL_lst, ixT_tup, ixQ_lst, ixQ_tup, lenD_lst, lenD_tup, listD_lst, listD_tup, catD_lst, rng1_int, rng2_int, sName_go, sTup_go, sCons_go, sNil_go, bTup_go, bCons_go, bNil_go, two_go, List.set_cons_zero, List.set_cons_succ, List.getElem?_cons_zero, List.getElem?_cons_succ, Option.join_some, atI_0, atI_1, atI_2, decide_eq_true_eq, wipeE, List.map_cons, List.map_nil, step_nx, step_ct, step_bk, step_rt, step_rl, step_er, vOf_int, vOf_str]
        exact ⟨rfl, by show 3 ≤ 100000; decide, rfl⟩
      have ha : as = (A1.map (mvK (img js))).map tieD := by
        rw [has, List.filter_eq_self.mpr fun _ _ => rfl, List.map_map, List.map_map]
        refine List.map_congr_left fun q hk => ?_
        obtain ⟨c, x, y, rfl, _⟩ := w.ka q hk
        rfl
      subst ha
      refine ⟨A1.map (mvK (img js)), ⟨rfl, ⟨3, fun q hk => (g.2.2.1 q hk).tie (by omega)⟩, by rw [List.length_map]; omega⟩, fun u hu => ?_⟩
      refine ⟨by rw [List.length_map]; omega, ?_⟩
      refine ex_ret (M.sel_flt (p := fun _ => true) (g := fun d => match d with | .tup [c, .int x] => .tup [c, .int (img js x)] | d => d) fun d hd => ?_) fun bs hbs => ?_
      · obtain ⟨q, hk, rfl⟩ := List.mem_map.mp hd
        obtain ⟨c, x, rfl, hc, x0, x1⟩ := w.km q hk
        simp only [lcF_go, tieM', img_atD x0 (show x < (js.length : Int) by omega), run_bnd, run_ret, run_opt, run_req, run_all, run_choose, run_ite, then_nx, then_rt, then_rl, then_er, then_ct, then_bk, outD_rt, outD_rl, outD_nx, outL_rl, outX_rt, outX_rl, outX_nx, outX_er, mask_nil, mask_cons, mk0_f, mk0_o, mk0_od, mk0_ot, mk0_n, peek_nil, peek_cons, pk_f, pk_o, pk_od, pk_ot, pk_n, dOf_int, dOf_bl, dOf_str, dOf_non, opI0_int, opI_int, unI_int, asB_bl, asI_int, asL_lst, asT_tup, asW_web, eqS_int, eqS_str, ixL_lst, ixT_tup, ixQ_lst, ixQ_tup, lenD_lst, lenD_tup, listD_lst, listD_tup, catD_lst, rng1_int, rng2_int, sName_go, sTup_go, sCons_go, sNil_go, bTup_go, bCons_go, bNil_go, two_go, List.set_cons_zero, List.set_cons_succ, List.getElem?_cons_zero, List.getElem?_cons_succ, Option.join_some, atI_0, atI_1, atI_2, decide_eq_true_eq, wipeE, List.map_cons, List.map_nil, step_nx, step_ct, step_bk, step_rt, step_rl, step_er, vOf_int, vOf_str]
        exact ⟨rfl, by show 2 ≤ 100000; decide, rfl⟩
      have hb : bs = (M1.map (mvK (img js))).map tieD := by
        rw [hbs, List.filter_eq_self.mpr fun _ _ => rfl, List.map_map, List.map_map]
        refine List.map_congr_left fun q hk => ?_
        obtain ⟨c, x, rfl, _⟩ := w.km q hk
        rfl
      subst hb
      refine ⟨M1.map (mvK (img js)), ⟨rfl, ⟨2, fun q hk => (g.2.2.2.1 q hk).tie (by omega)⟩, by rw [List.length_map]; omega⟩, fun v hv => ⟨by show 3 ≤ 100000; decide, ?_⟩⟩
      exact hq (u, v) ⟨hu, hv⟩
    · exact hq.elim
end
end Dv
namespace Wb
open PySem PySem.Spec PyProof.Rows L2 RZ Sg Tm
abbrev sTieR : Stmt := topS 21
theorem ref_at {ls : List Addr} {b : Int} (h0 : 0 ≤ b) (h : b.toNat < ls.length) : atI (ls.map V.ref) b = some (.ref ls[b.toNat]) := by
  refine at_of (j := b.toNat) (by omega) ?_
  rw [List.getElem?_map, List.getElem?_eq_getElem h]
  rfl
theorem new_updT {J L : Hp} {D : Addr} {o : HO} (nD : J D = none) (s : Same J L) : Same J (upd L D o) := fun c o' h => by
  rw [upd_ne (ne_of_none h nD)]
  exact s _ _ h
/-- whether a tie is at the point -/
def touch (p : Int) : List Key → Bool
  | [_, .inl s, .inl t] => decide (s = p) || decide (t = p)
  | [_, .inl q] => decide (q = p)
  | _ => false
def TkI (K : PySem.W.Frag) (H0 J : Hp) (L : Addr) (ls : List Addr) (g : Nat → List TK) : Prop := J L = some (.lst (ls.map V.ref)) ∧ Same H0 J ∧ ∀ i (h : i < ls.length), J ls[i] = some (.lst (refs (g i)))
theorem TkI.cong {K : PySem.W.Frag} {H0 J : Hp} {L : Addr} {ls : List Addr} {g g' : Nat → List TK} (h : TkI K H0 J L ls g) (e : ∀ i, i < ls.length → g' i = g i) : TkI K H0 J L ls g' := ⟨h.1, h.2.1, fun i hi => by
  rw [e i hi]
  exact h.2.2 i hi⟩
theorem TkI.app {K : PySem.W.Frag} {H0 J : Hp} {L : Addr} {ls : List Addr} {g g' : Nat → List TK} {e : Nat} {q : TK} (h : TkI K H0 J L ls g) (hne : ∀ q ∈ ls, q ≠ L) (hnd : ls.Nodup) (hN : ∀ q ∈ ls, H0 q = none) (he : e < ls.length) (ge : g' e = g e ++ [q]) (go : ∀ i, i ≠ e → g' i = g i) : TkI K H0 (upd J ls[e] (.lst (refs (g e) ++ [.ref q.1]))) L ls g' := by
  have he' := List.getElem_mem he
  refine ⟨?_, new_updT (hN _ he') h.2.1, fun i hi => ?_⟩
  · rw [upd_ne (hne _ he').symm]
    exact h.1
  · by_cases hie : i = e
    · subst hie
      rw [upd_same, ge]
      show _ = some (HO.lst (List.map _ (_ ++ _)))
      rw [List.map_append]
      rfl
    · rw [upd_ne (fun z => hie ((List.getElem_inj hnd).mp z)), go i hie]
      exact h.2.2 i hi
section
variable {P : Program} {w : World} {K : PySem.W.Frag} {mg : Str → Option Value} {base : Heap}
def spTR (K : PySem.W.Frag) (C : Addr) : Sp := fun vs H Q _ => ∃ x n As Ms, vs = [.ref x] ∧ WX K C H x n As Ms ∧ ∀ (r : Addr) (ls : List Addr) (ms : Nat → List TK) H', H r = none → Same H H' → H' r = some (.lst (ls.map V.ref)) → ls.length = n.toNat → (∀ q ∈ ls, H q = none ∧ q ≠ r) → (∀ i (h : i < ls.length), H' ls[i] = some (.lst (refs ((As.filter fun q => touch (i : Nat) q.2) ++ ms i))) ∧ (∀ q ∈ ms i, H q.1 = none ∧ H' q.1 = some (.tup (q.2.map kV))) ∧ (ms i).map (·.2) = (Ms.map (·.2)).filter (touch (i : Nat))) → Q (.ref r) H'
abbrev NTR : List Str := ["web", "rows", "point", "arrow", "colour", "start", "end", "mark"]
theorem scTR : FnScope NTR ["web"] (defScope sTieR) := ⟨rfl, rfl, rfl, by decide +kernel, rfl, by decide +kernel, by decide +kernel⟩
set_option maxHeartbeats 2000000 in
theorem ok_tr {f C fP fA fM : Addr} {fd dP dA dM : FuncData} (F : Fun K "tie_rows" "tie_rows" sTieR f fd) (c : Cls K C) (mr : mg "range" = none) (mP : Mf P w K mg base 1 C "points" (spPts C) fP dP) (mA : Mf P w K mg base 1 C "arrows" (spArr C) fA dA) (mM : Mf P w K mg base 1 C "marks" (spMrk C) fM dM) : FnOk P w K mg base CX0 2 f fd ["web"] (spTR K C) := by
  refine F.ok scTR (fun vs H Q E h => ?_) (fun cdv A outer s H vs Q E hr h => ?_)
  · obtain ⟨x, n, As, Ms, rfl, _⟩ := h
    rfl
  · obtain ⟨x, n, As, Ms, rfl, W, KQ⟩ := h
    refine ⟨_, (pss_cons (ps_setLc (i := 1) (own := [("point", 2)]) (g := gName 2) (tt := tYes) rfl scTR.nd rfl rfl (sw_true rfl rfl rfl (by decide +kernel)) (pi_range1 (by rfl) mr (pa_cons (pe_meth0 (pv 0) c mP.mt mP.ok (hr.mono (by decide)) mP.bd .nil pass0) pa_nil)) (blkOk_by (N := NTR) (sc := defScope sTieR) (by decide +kernel)) (fun _ _ _ _ _ => (pg_name (i := 2) scTR.nd rfl (.inl rfl))) (fun _ _ _ _ _ => pts_nil) (fun _ _ _ _ _ => (pe_lst pa_nil)))
      (pss_cons (ps_for PassesOwn.never rfl (pi_list (pe_meth0 (pv 0) c mA.mt mA.ok (hr.mono (by decide)) mA.bd .nil pass0)) (pg_name (i := 3) scTR.nd rfl (.inl rfl))
      (pss_cons (ps_asg (pv 3) (pg_tup rfl (pgs_cons (pg_name (i := 4) scTR.nd rfl (.inl rfl)) (pgs_cons (pg_name (i := 5) scTR.nd rfl (.inl rfl)) (pgs_cons (pg_name (i := 6) scTR.nd rfl (.inl rfl)) pgs_nil)))))
      (pss_cons (ps_expr (pe_bm PySem.F.plainAttrs_list PySem.F.slot_list_append PySem.F.type_list_append mt_append (pe_ix ix_list (pv 1) (pv 5) (fun _ _ => rfl)) (pa_cons (pv 3) pa_nil)))
      (pss_one (ps_if (pt_cmpR op_ne (pv 6) (pv 5) (nomark _)) (pss_one (ps_expr (pe_bm PySem.F.plainAttrs_list PySem.F.slot_list_append PySem.F.type_list_append mt_append (pe_ix ix_list (pv 1) (pv 6) (fun _ _ => rfl)) (pa_cons (pv 3) pa_nil)))) pss_nil)))))
      (pss_cons (ps_for PassesOwn.never rfl (pi_list (pe_meth0 (pv 0) c mM.mt mM.ok (hr.mono (by decide)) mM.bd .nil pass0)) (pg_tup rfl (pgs_cons (pg_name (i := 7) scTR.nd rfl (.inl rfl)) (pgs_cons (pg_name (i := 2) scTR.nd rfl (.inl rfl)) pgs_nil)))
      (pss_one (ps_expr (pe_bm PySem.F.plainAttrs_list PySem.F.slot_list_append PySem.F.type_list_append mt_append (pe_ix ix_list (pv 1) (pv 2) (fun _ _ => rfl)) (pa_cons (pe_tup (pa_cons (pv 7) (pa_cons (pv 2) pa_nil))) pa_nil)))))
      (pss_one (ps_ret (pv 1)))))), ?_⟩
    have a0 := W.n0
    have a1 := W.n1
    have lA := W.la
    have lM := W.lm
    obtain ⟨dx, pl, ar, mr', ow, bw, hx, _⟩ := id W.w.ex
    refine seq_set ⟨_, rfl, x, dx, _, rfl, hx, rfl, x, n, As, Ms, rfl, W.w, a0, n, rfl, by omega, by omega, fun L hL => ?_⟩
    refine lc_range (lo := 0) (n := n.toNat) (fun k J => ∃ ls : List Addr, ls.length = k ∧ (∀ q ∈ ls, q ≠ L) ∧ ls.Nodup ∧ (∀ q ∈ ls, H q = none) ∧ (∀ q ∈ ls, J q = some (.lst [])) ∧ J L = some (.lst (ls.map V.ref)) ∧ Same H J) ⟨[], rfl, (fun q h => nomatch h), List.nodup_nil, (fun q h => nomatch h), (fun q h => nomatch h), upd_same, same_upd hL⟩ ?_ ?_
    · rintro k J hk ⟨ls, hk', hne, hnd, hN, hE, hJ, sJ⟩
      refine ⟨rfl, ?_⟩
      dsimp only [tYes]
      refine iteT ⟨by show 0 ≤ sizeLine; decide, fun r nr => ?_⟩
      have rL : r ≠ L := (ne_of_none hJ nr).symm
      have keep : ∀ q ∈ ls, (upd (upd J r (.lst [])) L (.lst (ls.map V.ref ++ [.ref r]))) q = some (.lst []) := fun q hq => by
        rw [upd_ne (hne q hq), upd_ne (ne_of_none (hE q hq) nr)]
        exact hE q hq
      refine ⟨_, by rw [upd_ne rL.symm]; exact hJ, by rw [List.length_map]; exact small1000 (by omega), ls ++ [r], by rw [List.length_append, hk']; rfl, fun q hq => ?_, ?_, fun q hq => ?_, fun q hq => ?_, by rw [upd_same, List.map_append]; rfl, new_updT hL (sJ.trans (same_upd nr))⟩
      · exact (List.mem_append.mp hq).elim (hne q) (fun h => by rw [List.mem_singleton.mp h]; exact rL)
      · refine List.nodup_append.mpr ⟨hnd, List.nodup_cons.mpr ⟨List.not_mem_nil, List.nodup_nil⟩, fun a ha b hb => ?_⟩
        rw [List.mem_singleton.mp hb]
        exact ne_of_none (hE a ha) nr
      · exact (List.mem_append.mp hq).elim (hN q) (fun h => by rw [List.mem_singleton.mp h]; exact sJ.free nr)
      · rcases List.mem_append.mp hq with h | h
        · exact keep q h
        · rw [List.mem_singleton.mp h, upd_ne rL]
          exact upd_same
    rintro H3 ⟨ls, hls, hne, hnd, hN, hE, hJ, sJ⟩
    refine ⟨_, rfl, x, dx, _, rfl, sJ _ _ hx, rfl, x, n, As, Ms, rfl, (W.same sJ).w, fun PL nPL => ?_⟩
    have hnp : ∀ q ∈ ls, q ≠ PL := fun q hq => ne_of_none (hE q hq) nPL
    have hLP : L ≠ PL := ne_of_none hJ nPL
    refine ⟨PL, rfl, ⟨_, SqL.of upd_same⟩, for_list (xs := refs As) (fun i σ J => ∃ y2 y3 y4 y5 y6 y7, σ = [some (.ref x), some (.ref L), y2, y3, y4, y5, y6, y7] ∧ J PL = some (.lst (refs As)) ∧ TkI K H J L ls (fun u => (As.take i).filter fun q => touch (u : Nat) q.2)) ⟨_, _, _, _, _, _, rfl, upd_same, by rw [upd_ne hLP]; exact hJ, sJ.trans (same_upd nPL), fun i hi => same_upd nPL _ _ (hE _ (List.getElem_mem hi))⟩ ?_ ?_ ?_⟩
    · rintro i σ J _ ⟨y2, y3, y4, y5, y6, y7, _, hp, _⟩
      exact SqL.of hp
    · rintro i v σ J hv ⟨y2, y3, y4, y5, y6, y7, rfl, hp, lk⟩
      have hik : i < As.length := by
        have := (List.getElem?_eq_some_iff.mp hv).1
        rwa [List.length_map] at this
      have gi : (refs As)[i]? = some (.ref As[i].1) := by
        rw [List.getElem?_map, List.getElem?_eq_getElem hik]
        rfl
      cases hv.symm.trans gi
      have hm : As[i] ∈ As := List.getElem_mem hik
      obtain ⟨cc, a, b, ek, hc3, a0', a1', b0, b1⟩ := W.ka _ hm
      have sq := same_tup lk.2.1 (W.qa _ hm)
      rw [ek] at sq
      have hsn : ∀ e : Int, (As.take (i + 1)).filter (fun q => touch e q.2) = (As.take i).filter (fun q => touch e q.2) ++ (if touch e As[i].2 = true then [As[i]] else []) := fun e => by
        rw [List.take_add_one, List.getElem?_eq_getElem hik]
        show List.filter _ (_ ++ [As[i]]) = _
        rw [List.filter_append, List.filter_cons, List.filter_nil]
      have tq : ∀ e : Int, touch e As[i].2 = (decide (a = e) || decide (b = e)) := fun e => by rw [ek]; rfl
      have fl : ∀ (e : Int), ((As.take i).filter (fun q => touch e q.2)).length ≤ 1000 := fun e => by
        have := List.length_filter_le (fun q : TK => touch e q.2) (As.take i)
        rw [List.length_take] at this
        omega
      refine ⟨_, rfl, As[i].1, [.str ⟨#[cc]⟩, .int a, .int b], rfl, sq, rfl, .str ⟨#[cc]⟩, [.int a, .int b], rfl, .int a, [.int b], rfl, .int b, [], rfl, rfl, ?_⟩
      have he : a.toNat < ls.length := by omega
      have hf : b.toNat < ls.length := by omega
      have h1 := lk.2.2 _ he
      refine ⟨_, rfl, _, rfl, L, _, a, _, rfl, rfl, SqL.of lk.1, ref_at a0' he, .inl ⟨rfl, _, SqL.of h1⟩, _, rfl, ?_⟩
      refine ⟨_, _, _, rfl, rfl, h1, by rw [List.length_map]; exact small1000 (by have := fl ((a.toNat : Nat) : Int); omega), ?_⟩
      have hq1 : ls[a.toNat] ≠ PL := hnp _ (List.getElem_mem he)
      have ea : ((a.toNat : Nat) : Int) = a := by omega
      have eb : ((b.toNat : Nat) : Int) = b := by omega
      have lk1 : TkI K H (upd J ls[a.toNat] (.lst (refs ((As.take i).filter fun q => touch ((a.toNat : Nat) : Int) q.2) ++ [.ref As[i].1]))) L ls (fun u => (As.take i).filter (fun q => touch (u : Nat) q.2) ++ if u = a.toNat then [As[i]] else []) := lk.app hne hnd hN he (by show _ ++ (if a.toNat = a.toNat then _ else _) = _; rw [if_pos rfl]) (fun u hu => by show _ ++ (if u = a.toNat then _ else _) = _; rw [if_neg hu]; exact List.append_nil _)
      refine ⟨_, rfl, _, rfl, rfl, ?_⟩
      have hp1 : (upd J ls[a.toNat] (.lst (refs ((As.take i).filter fun q => touch ((a.toNat : Nat) : Int) q.2) ++ [.ref As[i].1]))) PL = some (.lst (refs As)) := by rw [upd_ne hq1.symm]; exact hp
      generalize upd J ls[a.toNat] (.lst (refs ((As.take i).filter fun q => touch ((a.toNat : Nat) : Int) q.2) ++ [.ref As[i].1])) = J1 at lk1 hp1 ⊢
      by_cases hab : b = a
      · refine ⟨_, rfl, ?_⟩
        rw [show (!(decide (V.int b = V.int a))) = false by rw [hab, decide_eq_true rfl]; rfl]
        refine iteF ⟨_, _, _, _, _, _, rfl, hp1, lk1.cong fun u _ => ?_⟩
        show List.filter _ _ = _ ++ (if u = a.toNat then _ else _)
        rw [hsn, tq]
        by_cases hu : u = a.toNat
        · rw [if_pos hu, if_pos (by rw [decide_eq_true (show a = (u : Int) by omega)]; rfl)]
        · rw [if_neg hu, if_neg (by rw [decide_eq_false (show ¬ a = (u : Int) by omega), decide_eq_false (show ¬ b = (u : Int) by omega)]; decide)]
      · refine ⟨_, rfl, ?_⟩
        rw [show (!(decide (V.int b = V.int a))) = true by rw [decide_eq_false (fun z => hab (V.int.inj z))]; rfl]
        refine iteT ?_
        have h2 := lk1.2.2 _ hf
        have enb : (fun u : Nat => (As.take i).filter (fun q => touch (u : Nat) q.2) ++ if u = a.toNat then [As[i]] else []) b.toNat = (As.take i).filter (fun q => touch ((b.toNat : Nat) : Int) q.2) := by
          show _ ++ (if b.toNat = a.toNat then _ else _) = _
          rw [if_neg (by omega), List.append_nil]
        refine ⟨_, rfl, _, rfl, L, _, b, _, rfl, rfl, SqL.of lk1.1, ref_at b0 hf, .inl ⟨rfl, _, SqL.of h2⟩, _, rfl, ?_⟩
        refine ⟨_, _, _, rfl, rfl, h2, by rw [List.length_map]; have := fl ((b.toNat : Nat) : Int); rw [← enb] at this; exact Nat.lt_of_le_of_lt this (by show 1000 < sizeLine; decide), ?_⟩
        have hq2 : ls[b.toNat] ≠ PL := hnp _ (List.getElem_mem hf)
        refine ⟨_, _, _, _, _, _, rfl, by rw [upd_ne hq2.symm]; exact hp1, lk1.app (q := As[i]) hne hnd hN hf ?_ fun u hu => ?_⟩
        · show List.filter _ _ = (_ ++ (if b.toNat = a.toNat then _ else _)) ++ _
          rw [if_neg (by omega), List.append_nil, hsn, tq, if_pos (by rw [decide_eq_true (show b = ((b.toNat : Nat) : Int) by omega), Bool.or_true])]
        · show List.filter _ _ = _ ++ (if u = a.toNat then _ else _)
          rw [hsn, tq]
          by_cases hu2 : u = a.toNat
          · rw [if_pos hu2, if_pos (by rw [decide_eq_true (show a = (u : Int) by omega)]; rfl)]
          · rw [if_neg hu2, if_neg (by rw [decide_eq_false (show ¬ a = (u : Int) by omega), decide_eq_false (show ¬ b = (u : Int) by omega)]; decide)]
    · rintro σ J ⟨y2, y3, y4, y5, y6, y7, rfl, hp, lk⟩
      rw [List.length_map, List.take_length] at lk
      clear hp
      refine ⟨_, rfl, x, dx, _, rfl, lk.2.1 _ _ hx, rfl, x, n, As, Ms, rfl, (W.same lk.2.1).w, fun PM nPM => ?_⟩
      have hnm : ∀ q ∈ ls, q ≠ PM := fun q hq => by
        obtain ⟨i, hi, rfl⟩ := List.getElem_of_mem hq
        exact ne_of_none (lk.2.2 i hi) nPM
      have hLM : L ≠ PM := ne_of_none lk.1 nPM
      have lk0 : TkI K H (upd J PM (.lst (refs Ms))) L ls (fun u => As.filter fun q => touch (u : Nat) q.2) := ⟨by rw [upd_ne hLM]; exact lk.1, lk.2.1.trans (same_upd nPM), fun i hi => by rw [upd_ne (hnm _ (List.getElem_mem hi))]; exact lk.2.2 i hi⟩
      refine ⟨PM, rfl, ⟨_, SqL.of upd_same⟩, for_list (xs := refs Ms) (fun i σ J => ∃ (ms : Nat → List TK) (y2 y3 y4 y5 y6 y7 : Option V), σ = [some (.ref x), some (.ref L), y2, y3, y4, y5, y6, y7] ∧ J PM = some (.lst (refs Ms)) ∧ TkI K H J L ls (fun u => (As.filter fun q => touch (u : Nat) q.2) ++ ms u) ∧ ∀ u, (∀ q ∈ ms u, H q.1 = none ∧ J q.1 = some (.tup (q.2.map kV))) ∧ (ms u).map (·.2) = ((Ms.take i).map (·.2)).filter (touch (u : Nat))) ⟨fun _ => [], _, _, _, _, _, _, rfl, upd_same, lk0.cong fun u _ => List.append_nil _, fun u => ⟨(fun q hq => nomatch hq), rfl⟩⟩ ?_ ?_ ?_⟩
      · rintro i σ J _ ⟨ms, y2, y3, y4, y5, y6, y7, _, hp, _⟩
        exact SqL.of hp
      · rintro i v σ J hv ⟨ms, y2, y3, y4, y5, y6, y7, rfl, hp, lk, hm⟩
        have hik : i < Ms.length := by
          have := (List.getElem?_eq_some_iff.mp hv).1
          rwa [List.length_map] at this
        have gi : (refs Ms)[i]? = some (.ref Ms[i].1) := by
          rw [List.getElem?_map, List.getElem?_eq_getElem hik]
          rfl
        cases hv.symm.trans gi
        have hmm : Ms[i] ∈ Ms := List.getElem_mem hik
        obtain ⟨cc, a, ek, hc3, b0, b1⟩ := W.km _ hmm
        have sq := same_tup lk.2.1 (W.qm _ hmm)
        rw [ek] at sq
        have he : a.toNat < ls.length := by omega
        have h1 := lk.2.2 _ he
        have tq : ∀ e : Int, touch e Ms[i].2 = decide (a = e) := fun e => by rw [ek]; rfl
        have hsn : ∀ e : Int, ((Ms.take (i + 1)).map (·.2)).filter (touch e) = ((Ms.take i).map (·.2)).filter (touch e) ++ (if touch e Ms[i].2 = true then [Ms[i].2] else []) := fun e => by
          rw [List.take_add_one, List.getElem?_eq_getElem hik, List.map_append, List.filter_append]
          show _ ++ List.filter _ [Ms[i].2] = _
          rw [List.filter_cons, List.filter_nil]
        refine ⟨Ms[i].1, [.str ⟨#[cc]⟩, .int a], rfl, sq, rfl, .str ⟨#[cc]⟩, [.int a], rfl, .int a, [], rfl, rfl, ?_⟩
        refine ⟨_, rfl, _, rfl, L, _, a, _, rfl, rfl, SqL.of lk.1, ref_at b0 he, .inl ⟨rfl, _, SqL.of h1⟩, _, rfl, _, rfl, by show 2 ≤ sizeLine; decide, fun T nT => ?_⟩
        have fl : ((As.filter (fun q => touch ((a.toNat : Nat) : Int) q.2)) ++ ms a.toNat).length ≤ 900 := by
          have l1 := List.length_filter_le (fun q : TK => touch ((a.toNat : Nat) : Int) q.2) As
          have l2 := congrArg List.length (hm a.toNat).2
          have l3 := List.length_filter_le (touch ((a.toNat : Nat) : Int)) ((Ms.take i).map (·.2))
          rw [List.length_map] at l2
          rw [List.length_map, List.length_take] at l3
          rw [List.length_append]
          omega
        have sT := same_upd (o := .tup [.str ⟨#[cc]⟩, .int a]) nT
        have lkT : TkI K H (upd J T (.tup [.str ⟨#[cc]⟩, .int a])) L ls (fun u => (As.filter fun q => touch (u : Nat) q.2) ++ ms u) := ⟨sT _ _ lk.1, lk.2.1.trans sT, fun i hi => sT _ _ (lk.2.2 i hi)⟩
        have hT : (upd J T (.tup [.str ⟨#[cc]⟩, .int a])) T = some (.tup [.str ⟨#[cc]⟩, .int a]) := upd_same
        have hTn : H T = none := lk.2.1.free nT
        have hpT := sT _ _ hp
        have hmT : ∀ u, ∀ q ∈ ms u, (upd J T (.tup [.str ⟨#[cc]⟩, .int a])) q.1 = some (.tup (q.2.map kV)) := fun u q hq => sT _ _ ((hm u).1 q hq).2
        generalize upd J T (.tup [.str ⟨#[cc]⟩, .int a]) = J1 at lkT hT hpT hmT ⊢
        have h1 := lkT.2.2 _ he
        refine ⟨_, _, _, rfl, rfl, h1, by rw [List.length_map]; exact Nat.lt_of_le_of_lt fl (by show 900 < sizeLine; decide), ?_⟩
        have hq2 : ls[a.toNat] ≠ PM := hnm _ (List.getElem_mem he)
        refine ⟨fun u => ms u ++ (if u = a.toNat then [(T, Ms[i].2)] else []), _, _, _, _, _, _, rfl, by rw [upd_ne hq2.symm]; exact hpT, lkT.app (q := (T, Ms[i].2)) hne hnd hN he ?_ fun u hu => ?_, fun u => ⟨fun q hq => ?_, ?_⟩⟩
        · show _ ++ (_ ++ (if a.toNat = a.toNat then _ else _)) = _
          rw [if_pos rfl, List.append_assoc]
        · show _ ++ (_ ++ (if u = a.toNat then _ else _)) = _
          rw [if_neg hu, List.append_nil]
        · have kp : ∀ {c xs}, J1 c = some (.tup xs) → (upd J1 ls[a.toNat] (.lst (refs ((As.filter fun q => touch ((a.toNat : Nat) : Int) q.2) ++ ms a.toNat) ++ [.ref T]))) c = some (.tup xs) := fun {c xs} hc => by
            rw [upd_ne (ne_of hc h1 (fun z => nomatch z))]
            exact hc
          rcases List.mem_append.mp hq with hq | hq
          · exact ⟨((hm u).1 q hq).1, kp (hmT u q hq)⟩
          · by_cases hu : u = a.toNat
            · rw [if_pos hu] at hq
              rw [List.mem_singleton.mp hq]
              refine ⟨hTn, ?_⟩
              have : (T, Ms[i].2).2.map kV = [.str ⟨#[cc]⟩, .int a] := by rw [ek]; rfl
              rw [this]
              exact kp hT
            · rw [if_neg hu] at hq
              cases hq
        · show (ms u ++ (if u = a.toNat then _ else _)).map _ = _
          rw [hsn, List.map_append, (hm u).2, tq]
          congr 1
          by_cases hu : u = a.toNat
          · rw [if_pos hu, if_pos (decide_eq_true (by omega))]
            rfl
          · rw [if_neg hu, if_neg (by rw [decide_eq_false (by omega)]; decide)]
            rfl
      · rintro σ J ⟨ms, y2, y3, y4, y5, y6, y7, rfl, hp, lk, hm⟩
        rw [List.length_map, List.take_length] at hm
        exact ⟨_, rfl, KQ L ls ms J hL lk.2.1 lk.1 hls (fun q hq => ⟨hN q hq, hne q hq⟩) fun i hi => ⟨lk.2.2 i hi, (hm i).1, (hm i).2⟩⟩
end
end Wb
namespace Dv
open PySem PySem.Spec PyProof.Rows L2 Sg
variable {S : Base} {B : Bo S} {X : XK}
/-! ### names set by a list; numbers sorted; a call with a default that may refuse -/
def sLst (n : Nat) (bs : List D → Ev → M Ev) : D → Ev → M Ev
  | .lst ds, ρ => M.bnd (M.req (ds.length = n)) fun _ => bs ds ρ
  | _, _ => M.fail
theorem sLst_go (n : Nat) (bs : List D → Ev → M Ev) (ds : List D) (ρ : Ev) : sLst n bs (.lst ds) ρ = M.bnd (M.req (ds.length = n)) fun _ => bs ds ρ := rfl
theorem es_lst {n : Nat} {gs : TGs} {bs : List D → Ev → M Ev} (h : EgsS S gs bs) : EgS S (gLst S.K n gs) (sLst n bs) := fun B H0 G0 σ H ρ G A v d Q r hr q => by
  cases hr <;> first
    | exact q.elim
    | (rename_i ha hx
       exact ⟨_, _, rfl, SqL.of (r.ok.sub _ _ ha), by rw [hx.length]; exact q.1, h B H0 G0 σ H ρ G A _ _ Q r hx q.2⟩)
def srtI : List D → M (List D)
  | [.lst es] => M.bnd (M.choose fun js : List Int => es = js.map D.int ∧ js.length < 64) fun js => M.bnd (M.all fun us : List Int => us.Perm js ∧ us.Pairwise (· ≤ ·)) fun us => M.ret (us.map D.int)
  | _ => M.fail
theorem srtI_go (es : List D) : srtI [.lst es] = M.bnd (M.choose fun js : List Int => es = js.map D.int ∧ js.length < 64) fun js => M.bnd (M.all fun us : List Int => us.Perm js ∧ us.Pairwise (· ≤ ·)) fun us => M.ret (us.map D.int) := rfl
theorem r_sortI : RCL S (rSorted S.K) srtI := fun B H G vs ds Q k r h => by
  unfold srtI at h
  split at h
  · obtain ⟨js, ⟨rfl, hl⟩, h⟩ := h
    cases r with
    | cons a b =>
      cases b
      cases a with
      | lst ha hr =>
        rw [ints_of hr] at ha
        exact ⟨_, js, rfl, SqL.of (k.sub _ _ ha), hl, fun us p h1 h2 hp => Rs2.lay k (show Rs2 S B H G Q (us.map D.int) from h us ⟨h1, h2⟩) (RpA.ints us) hp⟩
  · exact h.elim
section
variable {Y : Cx} {K : PySem.W.Frag} {pos : Pos}
theorem dv_sortI (h : Y.K = K) : CallR Y (.builtin "sorted") (rSorted K) := by subst h; exact cr_sorted
theorem dg_lst {es : List Expr} {k : Nat} {t : TGs} {n : Nat} (h : Y.K = K) (hc : Y.calm = true) (ht : PGs Y es t) (hn : (assignEach es Y.env).length = n := by rfl) (hs : List.findIdx? (fun x => x.fst) (assignEach es Y.env) = none := by rfl) : PG Y (Expr.Tuple es k pos) (gLst K n t) := by
  subst h
  exact pg_lst hc ht hn hs
end
theorem ed_callIX {f : List D → M Rx} {E : XK} {i : Int} {t : TA} {m : Env → M (List D)} (h : EvA S t m) : EvD S (tCall (spX S f) [.int i] E t) (fun ρ => M.bnd (m ρ) fun l => M.bnd (f (l ++ [.int i])) okR) := fun B σ H G ρ Q k er q =>
  h B σ H G ρ _ k er ((m ρ).mono (fun l hl vs H1 G1 k1 c1 r1 => ⟨B, G1, _, k1, r1.append (.cons (.int i) .nil), (f _).mono (fun y hy => by
    cases y with
    | ok d => exact Rs1.after c1 hy
    | er x => exact hy.elim) hl⟩) q)
theorem M.sel_fltM {α β γ : Type} {f : α → M (Option γ)} {g : β → α} {p : β → Bool} {h : β → γ} : ∀ {l : List β}, (∀ b ∈ l, (f (g b)).run fun o => o = if p b = true then some (h b) else none) → (M.sel f (l.map g)).run fun bs => bs = (l.filter p).map h
  | [], _ => rfl
  | b :: l, hh => (f (g b)).mono (fun o e => by
      refine (M.sel f (l.map g)).mono (fun bs hbs => ?_) (M.sel_fltM fun x hx => hh x (List.mem_cons_of_mem _ hx))
      subst e hbs
      rw [List.filter_cons]
      cases p b <;> rfl) (hh b (List.mem_cons_self ..))
end Dv
namespace Dv
open PySem PySem.Spec PyProof.Rows L2 Sg
variable {S : Base} {B : Bo S} {X : XK}
/-! ### x = l.pop() -/
theorem RpA.last {G : Hp} {xs : List V} {ds : List D} (r : RpA S B G xs ds) : RpA S B G xs.dropLast ds.dropLast := by
  rw [List.dropLast_eq_take, List.dropLast_eq_take, r.length]
  exact r.take _
theorem sv_pop {i j : Nat} : SvD S X (tAsg (tBM0 S.K "list" rPop (tVar i)) (gName j)) (fun ρ => M.bnd (ownL ρ i) fun ds => M.bnd (M.opt ds.getLast?) fun d => M.ret (.nx ((ρ.set i (some (.o ds.dropLast))).set j (some (.f d))))) := fun B H0 G0 σ H ρ E ⟨G, A, r⟩ q => by
  obtain ⟨ds, e, q⟩ := ownL_run q
  obtain ⟨d, hd, q⟩ := M.run_opt q
  obtain ⟨h1, h2, h3, o, h4, h5⟩ := r.ow i _ e rfl
  cases o <;> first
    | exact h5.elim
    | (rename_i xs
       rw [List.getLast?_eq_getElem?] at hd
       obtain ⟨y, hy, ry⟩ := RpA.get h5 hd
       refine ⟨_, h1, .inl ⟨rfl, _, SqL.of h4⟩, _, xs, y, rfl, rfl, h4, by rw [RpA.length h5]; exact hy, ?_⟩
       exact (show ∀ σ H, Rs S B H0 G0 σ H _ → E.nx σ H from q) _ _ ⟨G, A, (r.put (s' := .o ds.dropLast) (o' := .lst xs.dropLast) e rfl rfl (show RpA S B G xs.dropLast ds.dropLast from RpA.last h5)).set ry j⟩)
theorem pe_bm0Q {Y : Cx} {K : PySem.W.Frag} {o : Expr} {to : TE} {name : Str} {apos cpos : Pos} {T id : String} {r : V → List V → Hp → VK → Prop} (hK : Y.K = K) (pa : PlainAttrs T) (slot : Slot T name id) (hty : typeOf (.builtin id) = pure (.type "method_descriptor")) (hm : MtR Y id r) (ho : PE Y o to) (hb : attributeBase o name Y.env (eval o Y.env) = eval o Y.env := by rfl) (hl : (apos.endLine == cpos.line) = true := by rfl) : PE Y (.Call (.Attribute o name apos) [] [] cpos) (tBM0 K T r to) := by
  subst hK
  exact pe_bm0 pa slot hty hm ho hb hl
/-! ### {k: v} -/
theorem ek_disp1 {tk tv : TE} {mk mv : Env → M D} (hk : EvD S tk mk) (hv : EvD S tv mv) : EvK S (tDisp [(tk, tv)]) (fun ρ => M.bnd (mk ρ) fun y => M.bnd (mv ρ) fun z => M.bnd (M.opt (keyOf y)) fun k => M.ret [(k, z)]) := fun B σ H G ρ Q k er q p hp => by
  obtain ⟨k1, c1⟩ := k.lay hp (.dK [])
  have nb : ∀ q, B.bq ≠ some (p, q) := fun q e => k.ne e (FrA.of hp) rfl
  have aw := k.away (FrA.of hp)
  refine hk B σ _ G ρ _ k1 er ((mk ρ).mono (fun y hy v1 H1 G1 k2 c2 r1 => ?_) q)
  obtain ⟨hD2, gD2⟩ := c2.mine upd_same (k.sub.free hp) rfl nb
  refine hv B σ H1 G1 ρ _ k2 (er.mono c2.ext) ((mv ρ).mono (fun z hz v2 H2 G2 k3 c3 r2 => ?_) hy)
  obtain ⟨hD3, gD3⟩ := c3.mine hD2 gD2 rfl nb
  obtain ⟨kk, hkk, hz⟩ := M.run_opt hz
  refine ⟨hD3, [(kk, v2)], by rw [rp_keyOf hkk r1]; rfl, by show 1 ≤ 15; decide, ?_⟩
  have e : mergeK [] [(kk, v2)] = [(kk, v2)] := by simp [mergeK, putK]
  rw [e]
  exact (show Rs3 S B H G Q [(kk, z)] from hz) p [(kk, v2)] _ G2 (FrA.of hp) (k3.upd gD3 (fun u e => by rw [hD3] at e; cases e; rfl) aw) (((c1.trans c2).trans c3).upd (FrA.of hp)) upd_same gD3 rfl (.cons r2 .nil)
/-! ### a list, some times over -/
def repD : D → D → M (List D)
  | .lst l, .int k => M.bnd (M.req (0 ≤ k ∧ k ≤ 1000 ∧ l.length ≤ 100)) fun _ => M.ret (List.replicate k.toNat l).flatten
  | _, _ => M.fail
theorem repD_go (l : List D) (k : Int) : repD (.lst l) (.int k) = M.bnd (M.req (0 ≤ k ∧ k ≤ 1000 ∧ l.length ≤ 100)) fun _ => M.ret (List.replicate k.toNat l).flatten := rfl
theorem rep_of {G : Hp} {xs : List V} {ds : List D} (r : RpA S B G xs ds) : ∀ n : Nat, RpA S B G (List.replicate n xs).flatten (List.replicate n ds).flatten
  | 0 => .nil
  | n + 1 => by
    rw [List.replicate_succ, List.replicate_succ, List.flatten_cons, List.flatten_cons]
    exact r.append (rep_of r n)
theorem r_rep : R2L S rRep repD := fun B H G x y d e Q k rx ry h => by
  unfold repD at h
  split at h
  · obtain ⟨⟨k0, k1, hl⟩, h⟩ := h
    cases rx with
    | lst ha hr =>
      cases ry
      rename_i kk _ xs
      refine ⟨_, _, xs, rfl, rfl, k.sub _ _ ha, by omega, by omega, ?_, fun p hp => Rs2.lay k h (rep_of hr _) hp⟩
      have e := hr.length
      have : xs.length * kk.toNat ≤ 100 * 1000 := Nat.mul_le_mul (by omega) (by omega)
      exact Nat.le_trans this (by decide)
  · exact h.elim
/-! ### while, by what goes down by one -/
theorem while_run {mc : Env → M Bool} {g : Ev → M Ou} {P : Ou → Prop} (I : Nat → Ev → Prop) (h0 : ∀ ρ, I 0 ρ → (mc (peek ρ)).run fun b => b = false ∧ P (.nx ρ)) (hs : ∀ m ρ, I (m + 1) ρ → (mc (peek ρ)).run fun b => if b = true then (g ρ).run fun o => ∃ ρ', o = .nx ρ' ∧ I m ρ' else P (.nx ρ)) : ∀ m ρ, I m ρ → (M.some' fun n => whileM mc g n ρ).run P := by
  have key : ∀ m ρ, I m ρ → (whileM mc g (m + 1) ρ).run P := by
    intro m
    induction m with
    | zero =>
      intro ρ hi
      refine (mc (peek ρ)).mono (fun b hb => ?_) (h0 ρ hi)
      rw [hb.1]
      exact hb.2
    | succ m ih =>
      intro ρ hi
      refine (mc (peek ρ)).mono (fun b hb => ?_) (hs m ρ hi)
      cases b with
      | false => exact hb
      | true =>
        rw [if_pos rfl] at hb
        show (M.bnd (g ρ) _).run P
        refine (g ρ).mono (fun o ⟨ρ', e, h⟩ => ?_) hb
        subst e
        exact ih ρ' h
  exact fun m ρ hi => ⟨m + 1, key m ρ hi⟩
end Dv
namespace Dv
open PySem PySem.Spec PyProof.Rows L2 RZ Sg Tm Wb
local macro_rules | `(tactic| walk_at "r2") => `(tactic| first | with_reducible exact r_I0 | with_reducible exact r_I | with_reducible exact r_eq | with_reducible exact r_ne | with_reducible exact r_isN | with_reducible exact r_notN | with_reducible exact r_ixL | with_reducible exact r_ixT | with_reducible exact r_ixQ | with_reducible exact r_eqD | with_reducible exact r_neD | with_reducible exact r_inD | with_reducible exact r_notInD | with_reducible exact r_isB | with_reducible exact r_notB)
local macro_rules | `(tactic| walk_at "r2l") => `(tactic| first | with_reducible exact r_cat)
local macro_rules | `(tactic| walk_at "rc") => `(tactic| first | with_reducible exact r_len | with_reducible exact r_all)
local macro_rules | `(tactic| walk_at "rcl") => `(tactic| first | with_reducible exact r_list)
local macro_rules | `(tactic| walk_at "eo") => `(tactic| first | with_reducible exact eo_none | (with_reducible apply eo_some; walk_at "ed"))
local macro_rules | `(tactic| walk_at "ea") => `(tactic| first | with_reducible exact ea_nil | (with_reducible apply ea_star; walk_at "ed"; walk_at "ea") | (with_reducible apply ea_cons; walk_at "ed"; walk_at "ea"))
local macro_rules | `(tactic| walk_at "et") => `(tactic| first
  | with_reducible exact et_yes
  | (with_reducible apply et_test; walk_at "ed") | (with_reducible apply et_B; walk_at "ed") | (with_reducible apply et_not; walk_at "et")
  | (with_reducible apply et_and; walk_at "et"; walk_at "et") | (with_reducible apply et_or; walk_at "et"; walk_at "et"))
local macro_rules | `(tactic| walk_at "eg") => `(tactic| first | with_reducible exact eg_name | (with_reducible apply eg_tup; walk_at "egs"))
local macro_rules | `(tactic| walk_at "egs") => `(tactic| first | with_reducible exact eg_nil | (with_reducible apply eg_cons; walk_at "eg"; walk_at "egs"))
local macro_rules | `(tactic| walk_at "es") => `(tactic| first | with_reducible exact es_name | (with_reducible apply es_tup; walk_at "ess"))
local macro_rules | `(tactic| walk_at "ess") => `(tactic| first | with_reducible exact es_nil | (with_reducible apply es_cons; walk_at "es"; walk_at "ess"))
local macro_rules | `(tactic| walk_at "ei") => `(tactic| first | (with_reducible apply ei_list; walk_at "ed") | (with_reducible apply ei_tup; walk_at "ed") | (with_reducible apply ei_rng1; walk_at "ea") | (with_reducible apply ei_rng2; walk_at "ea") | (with_reducible apply ei_str; walk_at "ed"))
local macro_rules | `(tactic| walk_at "el") => `(tactic| first
  | (with_reducible apply el_lst; walk_at "ea")
  | (focus (with_reducible apply el_lc; rotate_left; walk_at "ei"; walk_at "eg"; walk_at "et"; walk_at "ed"; decide))
  | (with_reducible apply el_op; walk_at "r2l"; walk_at "ed"; walk_at "ed")
  | (with_reducible apply el_cb; walk_at "rcl"; walk_at "ea")
  | (with_reducible apply el_sl; walk_at "ed"; walk_at "eo"; walk_at "eo")
  | (with_reducible apply el_call; walk_at "ea")
  | walk_at "el+"
  | (with_reducible apply el_meth; decide; walk_at "ed"; walk_at "ea"))
local macro_rules | `(tactic| walk_at "ed") => `(tactic| first
  | with_reducible exact ed_var | with_reducible exact ed_c
  | (with_reducible apply ed_op; walk_at "r2"; walk_at "ed"; walk_at "ed")
  | (with_reducible apply ed_call; walk_at "ea")
  | (with_reducible apply ed_callX; walk_at "ea")
  | (with_reducible apply ed_tup; walk_at "ea")
  | (with_reducible apply ed_if; walk_at "et"; walk_at "ed"; walk_at "ed")
  | (with_reducible apply ed_cb; walk_at "rc"; walk_at "ea")
  | (with_reducible apply ed_un r_U; walk_at "ed")
  | (with_reducible apply ed_chain; walk_at "r2"; walk_at "r2"; walk_at "ed"; walk_at "ed"; walk_at "ed")
  | (with_reducible apply ed_andV; walk_at "ed"; walk_at "ed") | (with_reducible apply ed_orV; walk_at "ed"; walk_at "ed")
  | (with_reducible apply ed_meth; decide; walk_at "ed"; walk_at "ea")
  | walk_at "ed+"
  | (with_reducible apply EvL.d; walk_at "el"))
local macro_rules | `(tactic| walk_at "svF") => `(tactic| first
  | (with_reducible apply sv_seq; walk_at "svF"; walk_at "svF")
  | (with_reducible apply sv_asg; walk_at "ed")
  | (with_reducible apply sv_if; walk_at "et"; walk_at "svF"; walk_at "svF")
  | (with_reducible apply sv_for; walk_at "ei"; walk_at "es"; walk_at "svF")
  | walk_at "sv")
local macro_rules | `(tactic| walk_at "sv") => `(tactic| first
  | with_reducible exact sv_next | with_reducible exact sv_break | with_reducible exact sv_cont | with_reducible exact sv_never | with_reducible exact sv_retN
  | (with_reducible apply sv_seq; walk_at "sv"; walk_at "sv")
  | (with_reducible apply sv_asgL; walk_at "el")
  | (with_reducible apply sv_asg; walk_at "ed")
  | (with_reducible apply sv_if; walk_at "et"; walk_at "sv"; walk_at "sv")
  | (with_reducible apply sv_for; walk_at "ei"; walk_at "es"; walk_at "sv")
  | (with_reducible apply sv_par; walk_at "ea")
  | (with_reducible apply sv_app; walk_at "ed")
  | (with_reducible apply sv_ret; walk_at "ed")
  | (with_reducible apply sv_asgT; walk_at "ed"; walk_at "es")
  | (with_reducible apply sv_drop; walk_at "ed"))
local macro_rules | `(tactic| walk_at "rc") => `(tactic| first | with_reducible exact r_len | with_reducible exact r_all | with_reducible exact r_max | with_reducible exact r_min)
local macro_rules | `(tactic| walk_at "rcl") => `(tactic| first | with_reducible exact r_list | with_reducible exact r_sort)
local macro_rules | `(tactic| walk_at "el+") => `(tactic| (with_reducible apply el_listRg; walk_at "ed"))
local macro_rules | `(tactic| walk_at "edm") => `(tactic| first | (with_reducible apply ed_index; walk_at "ed"; walk_at "ed") | (with_reducible apply ed_dget2; walk_at "ed"; walk_at "ed"; walk_at "ed") | with_reducible exact ed_disp2 | (with_reducible apply ed_chain; walk_at "r2"; walk_at "r2"; walk_at "ed"; walk_at "ed"; walk_at "ed"))
local macro_rules | `(tactic| walk_at "ed+") => `(tactic| walk_at "edm")
local macro_rules | `(tactic| walk_at "ex") => `(tactic| first | (with_reducible apply ex_callI; walk_at "ea") | (with_reducible apply ex_call; walk_at "ea") | (with_reducible apply ex_opL; walk_at "r2"; walk_at "ex"; walk_at "ed"))
local macro_rules | `(tactic| walk_at "svM") => `(tactic| first
  | (with_reducible apply sv_seq; walk_at "svM"; walk_at "svM")
  | (with_reducible apply sv_ins; walk_at "ed")
  | (with_reducible apply sv_asg; walk_at "ed")
  | (with_reducible apply sv_asgX; walk_at "ex")
  | (with_reducible apply sv_retX; walk_at "ex")
  | (with_reducible apply sv_if; walk_at "et"; walk_at "svM"; walk_at "svM")
  | (with_reducible apply sv_for; walk_at "ei"; walk_at "es"; walk_at "svM")
  | walk_at "sv")
local macro_rules | `(tactic| walk_at "rc") => `(tactic| first | with_reducible exact r_len | with_reducible exact r_lenK | with_reducible exact r_all | with_reducible exact r_max | with_reducible exact r_min | with_reducible exact r_max1 | with_reducible exact r_min1 | with_reducible exact r_int | with_reducible exact r_tup)
local macro_rules | `(tactic| walk_at "ei") => `(tactic| first | (with_reducible apply ei_list; walk_at "ed") | (with_reducible apply ei_tup; walk_at "ed") | (with_reducible apply ei_rng1; walk_at "ea") | (with_reducible apply ei_rng2; walk_at "ea") | (with_reducible apply ei_str; walk_at "ed") | (with_reducible apply ei_en; walk_at "ea"))
local macro_rules | `(tactic| walk_at "edk") => `(tactic| first | (with_reducible apply ed_mk2; walk_at "ea"; walk_at "ea") | (with_reducible apply ed_dget; walk_at "ed"; walk_at "ed") | (with_reducible apply ed_din; walk_at "ed"; walk_at "ed") | (with_reducible apply ed_dnin; walk_at "ed"; walk_at "ed") | walk_at "edm")
local macro_rules | `(tactic| walk_at "ed+") => `(tactic| walk_at "edk")
local macro_rules | `(tactic| walk_at "ek") => `(tactic| first | with_reducible exact ek_new | (focus (with_reducible apply ek_dc; rotate_left; walk_at "ei"; walk_at "eg"; walk_at "et"; walk_at "ed"; walk_at "ed"; decide)))
local macro_rules | `(tactic| walk_at "svN") => `(tactic| first
  | (with_reducible apply sv_seq; walk_at "svN"; walk_at "svN")
  | (with_reducible apply sv_ins; walk_at "ed")
  | (with_reducible apply sv_asgK; walk_at "ek")
  | (with_reducible apply sv_asg; walk_at "ed")
  | (with_reducible apply sv_asgX; walk_at "ex")
  | (with_reducible apply sv_dropX; walk_at "ex")
  | (with_reducible apply sv_retX; walk_at "ex")
  | (with_reducible apply sv_dput; walk_at "ed"; walk_at "ed")
  | (with_reducible apply sv_raise rfl; decide; walk_at "ed")
  | (with_reducible apply sv_if; walk_at "et"; walk_at "svN"; walk_at "svN")
  | (with_reducible apply sv_for; walk_at "ei"; walk_at "es"; walk_at "svN")
  | walk_at "sv")
local macro_rules | `(tactic| walk_at "ek") => `(tactic| first | with_reducible exact ek_new | (with_reducible apply ek_disp1; walk_at "ed"; walk_at "ed") | (focus (with_reducible apply ek_dc; rotate_left; walk_at "ei"; walk_at "eg"; walk_at "et"; walk_at "ed"; walk_at "ed"; decide)))
local macro_rules | `(tactic| walk_at "svT") => `(tactic| first
  | (with_reducible apply sv_seq; walk_at "svT"; walk_at "svT")
  | with_reducible exact sv_pop
  | (with_reducible apply sv_asg; with_reducible apply EvL.d; with_reducible apply el_call; walk_at "ea")
  | (with_reducible apply sv_asgK; walk_at "ek")
  | (with_reducible apply sv_dput; walk_at "ed"; walk_at "ed")
  | (with_reducible apply sv_if; walk_at "et"; walk_at "svT"; walk_at "svT")
  | (with_reducible apply sv_for; walk_at "ei"; walk_at "es"; walk_at "svT")
  | (with_reducible apply sv_while; walk_at "et"; walk_at "svT")
  | with_reducible exact sv_retV
  | walk_at "sv")
/-- all points of a web -/
abbrev ptsL (n : Int) : List Int := (List.range n.toNat).map fun (i : Nat) => (i : Int)
def tiesAt (As Ms : List Ks) (p : Int) : List Ks := As.filter (touch p) ++ Ms.filter (touch p)
def trM : List D → M (List D)
  | [.web n As Ms] => M.ret ((ptsL n).map fun p => lD (tiesAt As Ms p))
  | _ => M.fail
theorem tr_go (n : Int) (As Ms : List Ks) : trM [.web n As Ms] = M.ret ((ptsL n).map fun p => lD (tiesAt As Ms p)) := rfl
/-- two points with an arrow between them -/
def Adj (As : List Ks) (x y : Int) : Prop := ∃ c : Str, [.inr c, .inl x, .inl y] ∈ As ∨ [.inr c, .inl y, .inl x] ∈ As
/-- what hangs together -/
inductive Conn (As : List Ks) : Int → Int → Prop
  | rf (x : Int) : Conn As x x
  | st {x y z : Int} : Conn As x y → Adj As y z → Conn As x z
theorem Adj.symm {As : List Ks} {x y : Int} (h : Adj As x y) : Adj As y x := by
  obtain ⟨c, h⟩ := h
  exact ⟨c, h.symm⟩
theorem Conn.trans {As : List Ks} {x y z : Int} (h : Conn As x y) (k : Conn As y z) : Conn As x z := by
  induction k with
  | rf => exact h
  | st _ a ih => exact .st ih a
theorem Conn.symm {As : List Ks} {x y : Int} (h : Conn As x y) : Conn As y x := by
  induction h with
  | rf => exact .rf _
  | st _ a ih => exact (Conn.st (.rf _) a.symm).trans ih
theorem Conn.mono {As Bs : List Ks} (h : ∀ k ∈ As, k ∈ Bs) {x y : Int} (c : Conn As x y) : Conn Bs x y := by
  induction c with
  | rf => exact .rf _
  | st _ a ih =>
    obtain ⟨c, a⟩ := a
    exact .st ih ⟨c, a.imp (h _) (h _)⟩
abbrev HRow := Int × Int × Ks
def rowD (r : HRow) : D := .tup [.int r.1, .int r.2.1, tieD r.2.2]
def ptsOf (r : Int) (R : List HRow) : List Int := r :: R.map (·.1)
/-- what is known of the rows that hang from the root -/
structure Hang (n : Int) (As : List Ks) (r : Int) (R : List HRow) : Prop where
  nd : (ptsOf r R).Nodup
  rg : ∀ p ∈ ptsOf r R, 0 ≤ p ∧ p < n
  up : ∀ i, (h : i < R.length) → R[i].2.1 ∈ ptsOf r (R.take i) ∧ R[i].2.2 ∈ As ∧ ∃ c : Str, R[i].2.2 = [.inr c, .inl R[i].2.1, .inl R[i].1] ∨ R[i].2.2 = [.inr c, .inl R[i].1, .inl R[i].2.1]
theorem Hang.conn {n : Int} {As : List Ks} {r : Int} {R : List HRow} (h : Hang n As r R) : ∀ p ∈ ptsOf r R, Conn As r p := by
  have key : ∀ k, k ≤ R.length → ∀ p ∈ ptsOf r (R.take k), Conn As r p := by
    intro k
    induction k with
    | zero =>
      intro _ p hp
      rw [List.take_zero] at hp
      rw [List.mem_singleton.mp hp]
      exact .rf _
    | succ k ih =>
      intro hk p hp
      have hk' : k < R.length := by omega
      rw [take_snoc hk'] at hp
      simp only [ptsOf, List.map_append, List.map_cons, List.map_nil] at hp
      rw [← List.cons_append] at hp
      rcases List.mem_append.mp hp with hp | hp
      · exact ih (by omega) p hp
      · rw [List.mem_singleton.mp hp]
        obtain ⟨h1, h2, c, h3⟩ := h.up k hk'
        refine .st (ih (by omega) _ h1) ⟨c, ?_⟩
        rcases h3 with h3 | h3 <;> rw [h3] at h2
        · exact .inl h2
        · exact .inr h2
  have := key R.length (Nat.le_refl _)
  rw [List.take_length] at this
  exact this
/-- no arrow leads out of them -/
def Shut (As : List Ks) (l : List Int) : Prop := ∀ x ∈ l, ∀ y, Adj As x y → y ∈ l
theorem Shut.conn {As : List Ks} {l : List Int} (h : Shut As l) {x y : Int} (hx : x ∈ l) (c : Conn As x y) : y ∈ l := by
  induction c with
  | rf => exact hx
  | st _ a ih => exact h _ ih _ a
/-- a web that hangs together, with one arrow fewer than points -/
def TreeP (n : Int) (As : List Ks) : Prop := (As.length : Int) = n - 1 ∧ ∀ p, 0 ≤ p ∧ p < n → Conn As 0 p
theorem hang_all {n : Int} {As : List Ks} {R : List HRow} (h : Hang n As 0 R) (s : Shut As (ptsOf 0 R)) : (R.length : Int) = n - 1 ↔ ∀ p, 0 ≤ p ∧ p < n → Conn As 0 p := by
  have len : (ptsOf 0 R).length = R.length + 1 := by simp [ptsOf]
  constructor
  · intro hl p hp
    refine h.conn p ?_
    -- as many as there are points: all of them
    apply Classical.byContradiction
    intro hn
    have nd : (p :: ptsOf 0 R).Nodup := List.nodup_cons.mpr ⟨hn, h.nd⟩
    have := List.Nodup.length_le_of_subset nd (l₂ := ptsL n) fun x hx => mem_rng.mpr (by
      rcases List.mem_cons.mp hx with rfl | hx
      · omega
      · have := h.rg x hx
        omega)
    rw [List.length_cons, len, List.length_map, List.length_range] at this
    omega
  · intro hc
    have h0 := h.rg 0 (List.mem_cons_self ..)
    have a := List.Nodup.length_le_of_subset h.nd (l₂ := ptsL n) fun x hx => mem_rng.mpr (by
      have := h.rg x hx
      omega)
    have nd : (ptsL n).Nodup := nodup_mapOn (fun a _ b _ e => by omega) List.nodup_range
    have b := List.Nodup.length_le_of_subset nd (l₂ := ptsOf 0 R) fun x hx => s.conn (List.mem_cons_self ..) (hc x (by
      have := mem_rng.mp hx
      omega))
    rw [len, List.length_map, List.length_range] at a b
    omega
def endK (p : Int) : Ks → Int
  | [_, .inl s, .inl t] => if s = p then t else s
  | _ => 0
section
variable {P : Program} {w : World} {K : PySem.W.Frag} {mg : Str → Option Value} {base : Heap} {C : Addr} {T : List (Addr × Str)} {cls : Str → Addr}
theorem sp_tr {vs : List V} {H : Hp} {Q : VK} {E : XK} (h : spL (mkS K C T cls) trM vs H Q E) : spTR K C vs H Q E := by
  obtain ⟨B, G, ds, k, r, h⟩ := h
  unfold trM at h
  split at h
  · cases r with
    | cons r1 r2 =>
      cases r2
      cases r1 with
      | web hw =>
        obtain ⟨U, V2, w, rfl, rfl⟩ := hw
        rename_i n _
        refine ⟨_, _, U, V2, rfl, w.same k.sub, fun a ls ms H' na sm ha hl hls hrow => ?_⟩
        obtain ⟨k1, c1⟩ := newG_same k (show Dv.Sub H H' from sm)
        let G' : Hp := fun c => if c = a then none else newG H H' G c
        have g1 : ∀ {c o}, G' c = some o → newG H H' G c = some o := fun {c o} e => by
          by_cases z : c = a
          · simp only [G', if_pos z] at e; cases e
          · simp only [G', if_neg z] at e; exact e
        have g2 : ∀ {c}, c ≠ a → G' c = newG H H' G c := fun {c} z => by simp only [G', if_neg z]
        have k2 : Ok B H' G' := ⟨fun c o e => k1.sub c o (g1 e), fun b q e => by
          by_cases z : b = a
          · simp only [G', if_pos z]
          · rw [g2 z]; exact k1.nm b q e, k1.bx, k1.tb, fun c ps e => k1.nt c ps (g1 e)⟩
        have c2 : Ch B H G H' G' := ⟨c1.ch, c1.fr, fun c o e => by
          rw [g2 (ne_of_none (k.sub c o e) na)]
          exact c1.ext c o e, fun c o e => c1.new c o (g1 e)⟩
        refine (show Rs2 _ B H G Q _ from h) a _ H' G' (FrA.of na) k2 c2 ha (by simp only [G', if_true]) ?_
        have one : ∀ i (hi : i < ls.length), Rp (mkS K C T cls) B G' (.ref ls[i]) (lD (tiesAt (U.map (·.2)) (V2.map (·.2)) (i : Nat))) := fun i hi => by
          obtain ⟨h1, h2, h3⟩ := hrow i hi
          obtain ⟨n1, n2⟩ := hls _ (List.getElem_mem hi)
          have e : (tiesAt (U.map (·.2)) (V2.map (·.2)) (i : Nat)) = ((U.filter fun q => touch (i : Nat) q.2) ++ ms i).map (·.2) := by
            unfold tiesAt
            rw [List.map_append, h3, List.filter_map]
            rfl
          rw [e]
          refine .lst (xs := refs ((U.filter fun q => touch (i : Nat) q.2) ++ ms i)) ?_ (rp_refs fun q hq => ?_)
          · rw [g2 n2, newG_none n1, h1]
            rfl
          · rcases List.mem_append.mp hq with hq | hq
            · exact sub_tup c2.ext (w.qa q (List.mem_filter.mp hq).1)
            · obtain ⟨m1, m2⟩ := h2 q hq
              refine SqT.of ?_
              have ne : q.1 ≠ a := fun z => by rw [z, ha] at m2; cases m2
              rw [g2 ne, newG_none m1, m2]
              rfl
        have all : ∀ {ls : List Addr} {m : Nat}, (∀ i (hi : i < ls.length), Rp (mkS K C T cls) B G' (.ref ls[i]) (lD (tiesAt (U.map (·.2)) (V2.map (·.2)) ((m + i : Nat) : Int)))) → RpA (mkS K C T cls) B G' (ls.map V.ref) ((List.range' m ls.length).map fun (i : Nat) => lD (tiesAt (U.map (·.2)) (V2.map (·.2)) (i : Int))) := by
          intro ls
          induction ls with
          | nil => intro m _; exact .nil
          | cons a ls ih =>
            intro m hh
            rw [List.length_cons, List.range'_succ, List.map_cons, List.map_cons]
            refine .cons (hh 0 (by simp)) (ih fun i hi => ?_)
            have := hh (i + 1) (by simpa using hi)
            rw [show m + 1 + i = m + (i + 1) by omega]
            exact this
        have fin := all (ls := ls) (m := 0) (fun i hi => by rw [Nat.zero_add]; exact one i hi)
        rw [hl, ← List.range_eq_range'] at fin
        rw [List.map_map]
        exact fin
  · exact h.elim
abbrev sOEnd : Stmt := topS 17
def oeM : List D → M D
  | [.tup [_, .int s, .int t], .int p] => M.ret (.int (if s = p then t else s))
  | _ => M.fail
theorem oe_go (c : D) (s t p : Int) : oeM [.tup [c, .int s, .int t], .int p] = M.ret (.int (if s = p then t else s)) := rfl
theorem len_oe {ds : List D} {Q : _ → Prop} (h : (oeM ds).run Q) : ds.length = 2 := by
  unfold oeM at h
  split at h
  · rfl
  · exact h.elim
abbrev N_oe : List Str := ["arrow", "point", "colour", "start", "end"]
theorem sc_oe : FnScope N_oe ["arrow", "point"] (defScope sOEnd) := ⟨rfl, rfl, rfl, by decide +kernel, rfl, by decide +kernel, by decide +kernel⟩
theorem ok_oe {f : Addr} {fd : FuncData} (F : Fun K "other_end" "other_end" sOEnd f fd) : FnOk P w K mg base CX0 1 f fd ["arrow", "point"] (spD (mkS K C T cls) oeM) := by
  refine F.ok sc_oe (fun vs H Q E h => ?_) (fun cdv A outer s H vs Q E hr h => ?_)
  · obtain ⟨B, G, ds, _, r, h⟩ := h
    rw [r.length]
    exact len_oe h
  · have hu5 : (A.deeper (envOfC "other_end" (defScope sOEnd) s.heap.objs.size f cdv)).units + 65 < cLine := by
      have := hr.un
      omega
    have hu : (A.deeper (envOfC "other_end" (defScope sOEnd) s.heap.objs.size f cdv)).units + 64 < cLine := by omega
    have hu1 : (A.deeper (envOfC "other_end" (defScope sOEnd) s.heap.objs.size f cdv)).units + 1 < cLine := by omega
    refine ⟨_, (pss_cons (ps_asg (pv 0) (dg_tup (K := K) (n := 3) rfl rfl (pgs_cons (pg_name (i := 2) sc_oe.nd rfl (.inl rfl)) (pgs_cons (pg_name (i := 3) sc_oe.nd rfl (.inl rfl)) (pgs_cons (pg_name (i := 4) sc_oe.nd rfl (.inl rfl)) pgs_nil)))))
      (pss_one (ps_ret (pe_ifExp (pt_cmpR op_eq (pv 3) (pv 1) (nomark _)) (pv 4) (pv 3))))), ?_⟩
    refine run_D (X := E) (S := mkS K C T cls) (N := N_oe) (by walk_at "svN") ?_ h
    intro ds Q hq
    unfold oeM at hq
    split at hq
    · rename_i c s t p
      have e : startE N_oe.length [.tup [c, .int s, .int t], .int p] = [some (.f (.tup [c, .int s, .int t])), some (.f (.int p)), none, none, none] := rfl
      rw [e]
      simp only [run_bnd, run_ret, run_opt, run_req, run_all, run_choose, run_ite, then_nx, then_rt, then_rl, then_er, then_ct, then_bk, outD_rt, outD_rl, outD_nx, outL_rl, outX_rt, outX_rl, outX_nx, outX_er, mask_nil, mask_cons, mk0_f, mk0_o, mk0_od, mk0_ot, mk0_n, peek_nil, peek_cons, pk_f, pk_o, pk_od, pk_ot, pk_n, dOf_int, dOf_bl, dOf_str, dOf_non, opI0_int, opI_int, unI_int, asB_bl, asI_int, asL_lst, asT_tup, asW_web, eqS_int, eqS_str, ixL_lst, ixT_tup, ixQ_lst, ixQ_tup, lenD_lst, lenD_tup, listD_lst, listD_tup, catD_lst, rng1_int, rng2_int, sName_go, sTup_go, sCons_go, sNil_go, bTup_go, bCons_go, bNil_go, two_go, List.set_cons_zero, List.set_cons_succ, List.getElem?_cons_zero, List.getElem?_cons_succ, Option.join_some, atI_0, atI_1, atI_2, decide_eq_true_eq, wipeE, List.map_cons, List.map_nil, step_nx, step_ct, step_bk, step_rt, step_rl, step_er, vOf_int, vOf_str]
      refine ⟨rfl, ?_⟩
      split
      · rename_i h1
        rw [if_pos h1] at hq
        exact hq
      · rename_i h1
        rw [if_neg h1] at hq
        exact hq
    · exact hq.elim
end
end Dv
namespace Dv
open PySem PySem.Spec PyProof.Rows L2 RZ Sg Tm Wb
section
variable {P : Program} {w : World} {K : PySem.W.Frag} {mg : Str → Option Value} {base : Heap} {C : Addr} {T : List (Addr × Str)} {cls : Str → Addr}
theorem bd_pos {f : Addr} {fd : FuncData} {ta tm : Addr} (F : FunD K "__init__" "Web.__init__" (defArgs sInit) (defBody sInit) (defScope sInit) [] [("arrows", .ref ta), ("marks", .ref tm)] f fd) : ∃ ds, Vals [V.ref ta, V.ref tm] ds ∧ Binds K fd psI ds := by
  refine F.binds0 2 (fun z => nomatch z) rfl ?_
  intro D doc pm an cdv ct us ks l1 l2
  match us, ks, l1, l2 with
  | [s, p], [a, m], _, _ => exact ⟨_, _, _, _, _, _, rfl, rfl, _, _, _, _, _, _, rfl, rfl, rfl⟩
def mk0M : List D → M D
  | [.int n] => M.bnd (M.req (0 ≤ n ∧ n ≤ 81)) fun _ => M.ret (.web n [] [])
  | _ => M.fail
theorem mk0M_go (n : Int) : mk0M [.int n] = M.bnd (M.req (0 ≤ n ∧ n ≤ 81)) fun _ => M.ret (.web n [] []) := rfl
theorem ed_mk0 {ta tm : Addr} {E : XK} (ea : ∀ H, SqT K H ta []) (em : ∀ H, SqT K H tm []) {t : TA} {m : Env → M (List D)} (h : EvA (mkS K C T cls) t m) : EvD (mkS K C T cls) (tMake C (spInit K C) [.ref ta, .ref tm] E t) (fun ρ => M.bnd (m ρ) mk0M) := fun B σ H G ρ Q k er q =>
  h B σ H G ρ _ k er ((m ρ).mono (fun l hl vs H1 G1 k1 c1 r1 => by
    have hl : (mk0M l).run (Rs1 (mkS K C T cls) B H G Q) := hl
    unfold mk0M at hl
    split at hl
    · rename_i n _
      obtain ⟨⟨h0, h1⟩, hq⟩ := hl
      cases r1 with
      | cons a b =>
        cases a
        cases b
        refine fun x dx nx ndx ne => ?_
        refine mk_use (ka := []) (km := []) nx ndx ne h0 h1 ⟨.inr (ea _), fun p hp => nomatch hp⟩ (fun p hp => nomatch hp) (by decide) ⟨.inr (em _), fun p hp => nomatch hp⟩ (fun p hp => nomatch hp) (by decide) fun J' As Ms W sA sM sm => ?_
        have eA : As = [] := by
          cases As with
          | nil => rfl
          | cons p _ => exact nomatch sA.of p (List.mem_cons_self ..)
        have eM : Ms = [] := by
          cases Ms with
          | nil => rfl
          | cons p _ => exact nomatch sM.of p (List.mem_cons_self ..)
        subst eA eM
        obtain ⟨k2, c2⟩ := newG_same k1 (show Sub H1 J' from sm)
        have w1 : WebAt C (fun a => match H1 a with | none => J' a | some _ => newG H1 J' G1 a) x n [] [] := W _ fun c o hc he => by
          show (match H1 c with | none => J' c | some _ => _) = _
          rw [hc]; exact he
        have w2 : WebAt C (newG H1 J' G1) x n [] [] := w1.extN fun b o hb hn => by
          cases hh : H1 b with
          | none =>
            simp only [hh] at hb
            rw [newG_none hh, hb]
            exact noTab_go hn
          | some u =>
            simp only [hh] at hb
            exact hb
        exact (show Rs1 _ B H G Q (.web n [] []) from hq) _ J' _ k2 (c1.trans c2) (.web ⟨[], [], ⟨w2, (fun z hz => nomatch hz), (fun z hz => nomatch hz), (fun z hz => nomatch hz), (fun z hz => nomatch hz), by decide, by decide, h0, h1⟩, rfl, rfl⟩)
    · exact hl.elim) q)
end
end Dv
namespace Dv
open PySem PySem.Spec PyProof.Rows L2 RZ Sg Tm Wb
def g5 {α : Type} : List α → List α → List α → List α
  | [s, p], [m], [a] => [s, p, a, m]
  | _, _, _ => []
def mkA : List D → List D → M D
  | [.int n], [.lst es] => M.bnd (M.choose fun la : List Ks => es = la.map tieD ∧ GoodW n la []) fun la => M.bnd (M.all fun u => SrtK la u) fun u => M.ret (.web n u [])
  | _, _ => M.fail
theorem mkA_go (n : Int) (es : List D) : mkA [.int n] [.lst es] = M.bnd (M.choose fun la : List Ks => es = la.map tieD ∧ GoodW n la []) fun la => M.bnd (M.all fun u => SrtK la u) fun u => M.ret (.web n u []) := rfl
section
variable {P : Program} {w : World} {K : PySem.W.Frag} {mg : Str → Option Value} {base : Heap} {C : Addr} {T : List (Addr × Str)} {cls : Str → Addr}
theorem kb5 {f : Addr} {fd : FuncData} {ta tm : Addr} (F : FunD K "__init__" "Web.__init__" (defArgs sInit) (defBody sInit) (defScope sInit) [] [("arrows", .ref ta), ("marks", .ref tm)] f fd) : ∃ mv : List Value, KBn K fd psI 2 ["arrows"] (fun us ws => g5 us mv ws) (fun vs zs => g5 vs [.ref tm] zs) := by
  refine F.kbinds0 2 ["arrows"] [("marks", .ref tm)] g5 (fun z => nomatch z) (fun q h => List.mem_cons_of_mem _ h) ?_ ?_
  · intro vs mz zs us mv ws h1 h2 h3
    match h1, h2, h3 with
    | .cons a0 (.cons a1 .nil), .cons c0 .nil, .cons b0 .nil => exact .cons a0 (.cons a1 (.cons b0 (.cons c0 .nil)))
    | .nil, _, _ => exact .nil
    | .cons _ .nil, _, _ => exact .nil
    | .cons _ (.cons _ (.cons _ _)), _, _ => exact .nil
    | .cons _ (.cons _ .nil), .nil, _ => exact .nil
    | .cons _ (.cons _ .nil), .cons _ (.cons _ _), _ => exact .nil
    | .cons _ (.cons _ .nil), .cons _ .nil, .nil => exact .nil
    | .cons _ (.cons _ .nil), .cons _ .nil, .cons _ (.cons _ _) => exact .nil
  · intro D doc pm an cdv ct us mv ws l1 l2 l3
    match us, mv, ws, l1, l2, l3 with
    | [s, p], [m], [a], _, _, _ => exact ⟨_, _, _, _, _, _, rfl, rfl, rfl⟩
theorem ed_mkA {tm : Addr} {E : XK} (em : ∀ H, SqT K H tm []) {t tk : TA} {m mk : Dv.Env → M (List D)} (h : EvA (mkS K C T cls) t m) (hk : EvA (mkS K C T cls) tk mk) : EvD (mkS K C T cls) (tMakeK C 1 (["arrows"] : List Str).length (spInit K C) (fun vs zs => g5 vs [.ref tm] zs) E t tk) (fun ρ => M.bnd (m ρ) fun l => M.bnd (mk ρ) fun z => mkA l z) := fun B σ H G ρ Q k er q =>
  h B σ H G ρ _ k er ((m ρ).mono (fun l hl vs H1 G1 k1 c1 r1 => hk B σ H1 G1 ρ _ k1 (er.mono c1.ext) ((mk ρ).mono (fun z hz zs H2 G2 k2 c2 r2 => by
    have hz : (mkA l z).run (Rs1 (mkS K C T cls) B H G Q) := hz
    unfold mkA at hz
    split at hz
    · obtain ⟨la, ⟨rfl, h0, h1, gA, _, l1, _⟩, hz2⟩ := hz
      have r1' := r1.mono c2.ext
      cases r1' with
      | cons a b =>
        cases a
        cases b
        cases r2 with
        | cons a b =>
          cases b
          refine ⟨rfl, rfl, fun x dx nx ndx ne => ?_⟩
          obtain ⟨aa, ka, rfl, e1, e2, rfl⟩ := list_of (l := la) a
          have gA' : ∀ p ∈ ka, AK _ p.2 := fun p hp => gA _ (List.mem_map.mpr ⟨p, hp, rfl⟩)
          rw [List.length_map] at l1
          refine mk_use (km := []) nx ndx ne h0 h1 ⟨.inl (SqL.of (k2.sub _ _ e1)), fun p hp => sub_tup k2.sub (e2 p hp)⟩ gA' l1 ⟨.inr (em _), fun p hp => nomatch hp⟩ (fun p hp => nomatch hp) (by decide) fun J' As Ms W sA sM sm => ?_
          have eM : Ms = [] := by
            cases Ms with
            | nil => rfl
            | cons p _ => exact nomatch sM.of p (List.mem_cons_self ..)
          subst eM
          obtain ⟨k3, c3⟩ := newG_same k2 (show Dv.Sub H2 J' from sm)
          have w1 : WebAt C (fun a => match H2 a with | none => J' a | some _ => newG H2 J' G2 a) x _ As [] := W _ fun c o hc he => by
            show (match H2 c with | none => J' c | some _ => _) = _
            rw [hc]; exact he
          have w2 : WebAt C (newG H2 J' G2) x _ As [] := w1.extN fun b o hb hn => by
            cases hh : H2 b with
            | none =>
              simp only [hh] at hb
              rw [newG_none hh, hb]
              exact noTab_go hn
            | some u =>
              simp only [hh] at hb
              exact hb
          have b1 := sA.len
          exact (show Rs1 _ B H G Q (.web _ (As.map (·.2)) []) from hz2 (As.map (fun p : TK => p.2)) (srtK_of sA)) _ J' _ k3 ((c1.trans c2).trans c3) (.web ⟨As, [], ⟨w2, fun z hz => sub_tup c3.ext (e2 z (sA.of z hz)), (fun z hz => nomatch hz), fun z hz => gA' z (sA.of z hz), (fun z hz => nomatch hz), by omega, by decide, h0, h1⟩, rfl, rfl⟩)
    · exact hz.elim) hl)) q)
end
end Dv
namespace Dv
open PySem PySem.Spec PyProof.Rows L2 Sg
variable {S : Base} {B : Bo S} {X : XK}
/-! ### a new list, or a refusal -/
inductive Ry where
  | ok (ds : List D) | er (x : Exn)
def RsY (S : Base) (B : Bo S) (H G : Hp) (Q : VK) (X : XK) : Ry → Prop
  | .ok ds => Rs2 S B H G Q ds
  | .er x => RsE B H G X x
theorem RsY.after {H G H1 G1 : Hp} {Q : VK} {r : Ry} (c : Ch B H G H1 G1) (h : RsY S B H G Q X r) : RsY S B H1 G1 Q X r := by
  cases r with
  | ok d => exact Rs2.after c h
  | er x => exact RsE.after c h
def spY (S : Base) (f : List D → M Ry) : Sp := fun vs H Q X => ∃ B G ds, Ok B H G ∧ RpA S B G vs ds ∧ (f ds).run (RsY S B H G Q X)
def okY (ρ : Ev) (i : Nat) : Ry → M Ou
  | .ok ds => M.ret (.nx (ρ.set i (some (.o ds))))
  | .er _ => M.fail
theorem okY_go (ρ : Ev) (i : Nat) (ds : List D) : okY ρ i (.ok ds) = M.ret (.nx (ρ.set i (some (.o ds)))) := rfl
/-- x = f(..), which does not refuse -/
theorem sv_asgY {f : List D → M Ry} {E : XK} {i : Nat} {t : TA} {m : Env → M (List D)} (h : EvA S t m) : SvD S X (tAsg (tCall (spY S f) [] E t) (gName i)) (fun ρ => M.bnd (m (mask ρ)) fun l => M.bnd (f l) (okY ρ i)) := fun B H0 G0 σ H ρ En ⟨G, A, r⟩ q =>
  h B σ H G (mask ρ) _ r.ok r.mask ((m (mask ρ)).mono (fun l hl vs H1 G1 k1 c1 r1 => ⟨B, G1, l, k1, by rw [List.append_nil]; exact r1, (f l).mono (fun y hy => by
    cases y with
    | er x => exact hy.elim
    | ok ds =>
      refine fun p xs H2 G2 n k2 c2 h2 g2 r2 => ?_
      have r' := (r.step k1 c1)
      have r'' := r'.step k2 c2
      exact (show ∀ σ H, Rs S B H0 G0 σ H (ρ.set i (some (.o ds))) → En.nx σ H from hy) _ _ ⟨G2, _, r''.own (s := .o ds) rfl (r'.ch.fr _ n) h2 g2 r2 (fun j t e w z => by
        obtain ⟨_, _, _, o, ho, hw⟩ := r'.ow j t e w
        exact n.ne ho (plainO.nt hw.pl) z) i⟩) hl⟩) q)
def toX : Ry → M Rx
  | .ok ds => M.ret (.ok (.lst ds))
  | .er x => M.ret (.er x)
theorem toX_ok (ds : List D) : toX (.ok ds) = M.ret (.ok (.lst ds)) := rfl
theorem toX_er (x : Exn) : toX (.er x) = M.ret (.er x) := rfl
theorem ex_callY {f : List D → M Ry} {t : TA} {m : Env → M (List D)} (h : EvA S t m) : EvX S (fun E => tCall (spY S f) [] E t) (fun ρ => M.bnd (m ρ) fun l => M.bnd (f l) toX) := fun B σ H G ρ Q X k er q =>
  h B σ H G ρ _ k er ((m ρ).mono (fun l hl vs H1 G1 k1 c1 r1 => ⟨B, G1, l, k1, by rw [List.append_nil]; exact r1, (f l).mono (fun y hy => by
    cases y with
    | er x => exact RsE.after c1 hy
    | ok ds => exact Rs1.frz k1 (Rs1.after c1 (show Rs1 S B H G Q (.lst ds) from hy))) hl⟩) q)
theorem ex_callYN {f : List D → M Ry} {n k' : Nat} {t tk : TA} {m mk : Env → M (List D)} (h : EvA S t m) (hk : EvA S tk mk) : EvX S (fun E => tCallN n k' (spY S f) (fun vs zs => vs ++ zs) E t tk) (fun ρ => M.bnd (m ρ) fun l => M.bnd (mk ρ) fun z => M.bnd (M.req (l.length = n ∧ z.length = k')) fun _ => M.bnd (f (l ++ z)) toX) := fun B σ H G ρ Q X k er q =>
  h B σ H G ρ _ k er ((m ρ).mono (fun l hl vs H1 G1 k1 c1 r1 => hk B σ H1 G1 ρ _ k1 (er.mono c1.ext) ((mk ρ).mono (fun z hz zs H2 G2 k2 c2 r2 => ⟨by rw [r1.length]; exact hz.1.1, by rw [r2.length]; exact hz.1.2, B, G2, _, k2, (r1.mono c2.ext).append r2, (f _).mono (fun y hy => by
    cases y with
    | er x => exact RsE.after (c1.trans c2) hy
    | ok ds => exact Rs1.frz k2 (Rs1.after (c1.trans c2) (show Rs1 S B H G Q (.lst ds) from hy))) hz.2⟩) hl)) q)
def outY (P : Ry → Prop) : Ou → Prop
  | .rl l => P (.ok l)
  | .er x => P (.er x)
  | _ => False
theorem outY_rl (P : Ry → Prop) (l : List D) : outY P (.rl l) = P (.ok l) := rfl
theorem outY_er (P : Ry → Prop) (x : Exn) : outY P (.er x) = P (.er x) := rfl
theorem run_Y {N : List Str} {t : TS} {g : Ev → M Ou} {f : List D → M Ry} (h : SvD S X t g) (ref : ∀ ds P, (f ds).run P → (g (startE N.length ds)).run (outY P)) {vs : List V} {H : Hp} {Q : VK} (sp : spY S f vs H Q X) : t { nx := fun _ H' => Q .non H', rt := Q } (L2.start N vs) H := by
  obtain ⟨B, G, ds, k, r, q⟩ := sp
  refine h B H G _ H _ _ (start_rs k r) (M.mono _ (fun o ho => ?_) (ref ds _ q))
  cases o with
  | rl l => exact fun p xs H' G' a k' c b d r' => (show Rs2 S B H G Q l from ho) p xs H' G' a k' c b d r'
  | er x => exact ho
  | nx ρ => exact ho.elim
  | rt d => exact ho.elim
  | bk ρ => exact ho.elim
  | ct ρ => exact ho.elim
end Dv
namespace Dv
open PySem PySem.Spec PyProof.Rows L2 Sg
variable {S : Base} {B : Bo S} {X : XK}
/-! ### whole numbers within a tuple; a part of a tuple -/
theorem dv_inS {Y : Cx} {K : PySem.W.Frag} (h : Y.K = K) : OpR Y (compareOp .In) (rIn K false) := by subst h; exact op_in_seq
theorem rp_intsV {G : Hp} : ∀ {js : List Int} {vs : List V}, RpA S B G vs (js.map D.int) → vs = js.map V.int
  | [], _, h => by cases h; rfl
  | j :: js, _, h => by
    cases h with
    | cons a r =>
      cases a
      rw [rp_intsV r]
      rfl
def inT : D → D → M D
  | .int i, .tup l => M.bnd (M.choose fun js : List Int => l = js.map D.int) fun js => M.ret (.bl (decide (i ∈ js)))
  | _, _ => M.fail
theorem inT_go (i : Int) (l : List D) : inT (.int i) (.tup l) = M.bnd (M.choose fun js : List Int => l = js.map D.int) fun js => M.ret (.bl (decide (i ∈ js))) := rfl
theorem inV_ints (i : Int) : ∀ js : List Int, inV (.int i) (js.map V.int) = decide (i ∈ js)
  | [] => rfl
  | j :: js => by
    have := inV_ints i js
    unfold inV at this ⊢
    rw [List.map_cons, List.any_cons, this]
    have e : eqV (.int j) (.int i) = decide (j = i) := rfl
    rw [e, Bool.eq_iff_iff]
    simp only [Bool.or_eq_true, decide_eq_true_eq, List.mem_cons]
    constructor
    · rintro (h | h)
      · exact .inl h.symm
      · exact .inr h
    · rintro (h | h)
      · exact .inl h.symm
      · exact .inr h
theorem flat_ints : ∀ js : List Int, (js.map V.int).all flatV = true
  | [] => rfl
  | j :: js => by
    rw [List.map_cons, List.all_cons, flat_ints js]
    rfl
theorem r_inT : R2D S (rIn S.K false) inT := fun B H G x y d e Q k rx ry h => by
  unfold inT at h
  split at h
  · obtain ⟨js, rfl, h⟩ := h
    cases rx
    cases ry with
    | tup ha hr =>
      obtain rfl := rp_intsV hr
      refine ⟨_, _, rfl, .inr (sub_tup k.sub ha), rfl, flat_ints js, ?_⟩
      rw [inV_ints]
      exact Rs1.now k h (.bl _)
  · exact h.elim
theorem ed_slT {te : TE} {tl th : TO} {me : Env → M D} {ml mh : Env → M (Option Int)} (h : EvD S te me) (h1 : EvO S tl ml) (h2 : EvO S th mh) : EvD S (tSl (rSlT S.K) te tl th) (fun ρ => M.bnd (me ρ) fun d => M.bnd (ml ρ) fun lo => M.bnd (mh ρ) fun hi => M.bnd (asT d) fun l => M.bnd (M.req (¬ (HT.sIx l.length 0 lo = 0 ∧ HT.sIx l.length l.length hi = l.length))) fun _ => M.ret (.tup (cutD l lo hi))) := fun B σ H G ρ Q k er q =>
  h B σ H G ρ _ k er ((me ρ).mono (fun d hd v H1 G1 k1 c1 r1 => h1 B σ H1 G1 ρ _ k1 (er.mono c1.ext) ((ml ρ).mono (fun lo hlo H2 G2 k2 c2 => h2 B σ H2 G2 ρ _ k2 (er.mono (c1.trans c2).ext) ((mh ρ).mono (fun hi hhi H3 G3 k3 c3 => by
    cases r1.mono (c2.trans c3).ext <;> first
      | exact hhi.elim
      | (rename_i a xs l ha hr
         have hl := hr.length
         refine ⟨_, _, rfl, sub_tup k3.sub ha, by rw [hl]; exact hhi.1, fun p hp => ?_⟩
         obtain ⟨k4, c4⟩ := k3.put hp (.tup (cutV xs lo hi)) (fun _ z => nomatch z)
         exact (show Rs1 S B H G Q (.tup (cutD l lo hi)) from hhi.2) _ _ _ k4 (((c1.trans c2).trans c3).trans c4) (.tup (SqT.of upd_same) ((hr.cut lo hi).mono c4.ext)))) hlo)) hd)) q)
end Dv
namespace Dv
open PySem PySem.Spec PyProof.Rows L2 RZ Sg Tm Wb
local macro_rules | `(tactic| walk_at "r2") => `(tactic| first | with_reducible exact r_I0 | with_reducible exact r_I | with_reducible exact r_eq | with_reducible exact r_ne | with_reducible exact r_isN | with_reducible exact r_notN | with_reducible exact r_ixL | with_reducible exact r_ixT | with_reducible exact r_ixQ | with_reducible exact r_eqD | with_reducible exact r_neD | with_reducible exact r_inD | with_reducible exact r_notInD | with_reducible exact r_isB | with_reducible exact r_notB)
local macro_rules | `(tactic| walk_at "r2l") => `(tactic| first | with_reducible exact r_cat)
local macro_rules | `(tactic| walk_at "rc") => `(tactic| first | with_reducible exact r_len | with_reducible exact r_all)
local macro_rules | `(tactic| walk_at "rcl") => `(tactic| first | with_reducible exact r_list)
local macro_rules | `(tactic| walk_at "eo") => `(tactic| first | with_reducible exact eo_none | (with_reducible apply eo_some; walk_at "ed"))
local macro_rules | `(tactic| walk_at "ea") => `(tactic| first | with_reducible exact ea_nil | (with_reducible apply ea_star; walk_at "ed"; walk_at "ea") | (with_reducible apply ea_cons; walk_at "ed"; walk_at "ea"))
local macro_rules | `(tactic| walk_at "et") => `(tactic| first
  | with_reducible exact et_yes
  | (with_reducible apply et_test; walk_at "ed") | (with_reducible apply et_B; walk_at "ed") | (with_reducible apply et_not; walk_at "et")
  | (with_reducible apply et_and; walk_at "et"; walk_at "et") | (with_reducible apply et_or; walk_at "et"; walk_at "et"))
local macro_rules | `(tactic| walk_at "eg") => `(tactic| first | with_reducible exact eg_name | (with_reducible apply eg_tup; walk_at "egs"))
local macro_rules | `(tactic| walk_at "egs") => `(tactic| first | with_reducible exact eg_nil | (with_reducible apply eg_cons; walk_at "eg"; walk_at "egs"))
local macro_rules | `(tactic| walk_at "es") => `(tactic| first | with_reducible exact es_name | (with_reducible apply es_tup; walk_at "ess"))
local macro_rules | `(tactic| walk_at "ess") => `(tactic| first | with_reducible exact es_nil | (with_reducible apply es_cons; walk_at "es"; walk_at "ess"))
local macro_rules | `(tactic| walk_at "ei") => `(tactic| first | (with_reducible apply ei_list; walk_at "ed") | (with_reducible apply ei_tup; walk_at "ed") | (with_reducible apply ei_rng1; walk_at "ea") | (with_reducible apply ei_rng2; walk_at "ea") | (with_reducible apply ei_str; walk_at "ed"))
local macro_rules | `(tactic| walk_at "el") => `(tactic| first
  | (with_reducible apply el_lst; walk_at "ea")
  | (focus (with_reducible apply el_lc; rotate_left; walk_at "ei"; walk_at "eg"; walk_at "et"; walk_at "ed"; decide))
  | (with_reducible apply el_op; walk_at "r2l"; walk_at "ed"; walk_at "ed")
  | (with_reducible apply el_cb; walk_at "rcl"; walk_at "ea")
  | (with_reducible apply el_sl; walk_at "ed"; walk_at "eo"; walk_at "eo")
  | (with_reducible apply el_call; walk_at "ea")
  | walk_at "el+"
  | (with_reducible apply el_meth; decide; walk_at "ed"; walk_at "ea"))
local macro_rules | `(tactic| walk_at "ed") => `(tactic| first
  | with_reducible exact ed_var | with_reducible exact ed_c
  | (with_reducible apply ed_op; walk_at "r2"; walk_at "ed"; walk_at "ed")
  | (with_reducible apply ed_call; walk_at "ea")
  | (with_reducible apply ed_callX; walk_at "ea")
  | (with_reducible apply ed_tup; walk_at "ea")
  | (with_reducible apply ed_if; walk_at "et"; walk_at "ed"; walk_at "ed")
  | (with_reducible apply ed_cb; walk_at "rc"; walk_at "ea")
  | (with_reducible apply ed_un r_U; walk_at "ed")
  | (with_reducible apply ed_chain; walk_at "r2"; walk_at "r2"; walk_at "ed"; walk_at "ed"; walk_at "ed")
  | (with_reducible apply ed_andV; walk_at "ed"; walk_at "ed") | (with_reducible apply ed_orV; walk_at "ed"; walk_at "ed")
  | (with_reducible apply ed_meth; decide; walk_at "ed"; walk_at "ea")
  | walk_at "ed+"
  | (with_reducible apply EvL.d; walk_at "el"))
local macro_rules | `(tactic| walk_at "svF") => `(tactic| first
  | (with_reducible apply sv_seq; walk_at "svF"; walk_at "svF")
  | (with_reducible apply sv_asg; walk_at "ed")
  | (with_reducible apply sv_if; walk_at "et"; walk_at "svF"; walk_at "svF")
  | (with_reducible apply sv_for; walk_at "ei"; walk_at "es"; walk_at "svF")
  | walk_at "sv")
local macro_rules | `(tactic| walk_at "sv") => `(tactic| first
  | with_reducible exact sv_next | with_reducible exact sv_break | with_reducible exact sv_cont | with_reducible exact sv_never | with_reducible exact sv_retN
  | (with_reducible apply sv_seq; walk_at "sv"; walk_at "sv")
  | (with_reducible apply sv_asgL; walk_at "el")
  | (with_reducible apply sv_asg; walk_at "ed")
  | (with_reducible apply sv_if; walk_at "et"; walk_at "sv"; walk_at "sv")
  | (with_reducible apply sv_for; walk_at "ei"; walk_at "es"; walk_at "sv")
  | (with_reducible apply sv_par; walk_at "ea")
  | (with_reducible apply sv_app; walk_at "ed")
  | (with_reducible apply sv_ret; walk_at "ed")
  | (with_reducible apply sv_asgT; walk_at "ed"; walk_at "es")
  | (with_reducible apply sv_drop; walk_at "ed"))
local macro_rules | `(tactic| walk_at "rc") => `(tactic| first | with_reducible exact r_len | with_reducible exact r_all | with_reducible exact r_max | with_reducible exact r_min)
local macro_rules | `(tactic| walk_at "rcl") => `(tactic| first | with_reducible exact r_list | with_reducible exact r_sort)
local macro_rules | `(tactic| walk_at "el+") => `(tactic| (with_reducible apply el_listRg; walk_at "ed"))
local macro_rules | `(tactic| walk_at "edm") => `(tactic| first | (with_reducible apply ed_index; walk_at "ed"; walk_at "ed") | (with_reducible apply ed_dget2; walk_at "ed"; walk_at "ed"; walk_at "ed") | with_reducible exact ed_disp2 | (with_reducible apply ed_chain; walk_at "r2"; walk_at "r2"; walk_at "ed"; walk_at "ed"; walk_at "ed"))
local macro_rules | `(tactic| walk_at "ed+") => `(tactic| walk_at "edm")
local macro_rules | `(tactic| walk_at "ex") => `(tactic| first | (with_reducible apply ex_callI; walk_at "ea") | (with_reducible apply ex_call; walk_at "ea") | (with_reducible apply ex_opL; walk_at "r2"; walk_at "ex"; walk_at "ed"))
local macro_rules | `(tactic| walk_at "svM") => `(tactic| first
  | (with_reducible apply sv_seq; walk_at "svM"; walk_at "svM")
  | (with_reducible apply sv_ins; walk_at "ed")
  | (with_reducible apply sv_asg; walk_at "ed")
  | (with_reducible apply sv_asgX; walk_at "ex")
  | (with_reducible apply sv_retX; walk_at "ex")
  | (with_reducible apply sv_if; walk_at "et"; walk_at "svM"; walk_at "svM")
  | (with_reducible apply sv_for; walk_at "ei"; walk_at "es"; walk_at "svM")
  | walk_at "sv")
local macro_rules | `(tactic| walk_at "rc") => `(tactic| first | with_reducible exact r_len | with_reducible exact r_lenK | with_reducible exact r_all | with_reducible exact r_max | with_reducible exact r_min | with_reducible exact r_max1 | with_reducible exact r_min1 | with_reducible exact r_int | with_reducible exact r_tup)
local macro_rules | `(tactic| walk_at "ei") => `(tactic| first | (with_reducible apply ei_list; walk_at "ed") | (with_reducible apply ei_tup; walk_at "ed") | (with_reducible apply ei_rng1; walk_at "ea") | (with_reducible apply ei_rng2; walk_at "ea") | (with_reducible apply ei_str; walk_at "ed") | (with_reducible apply ei_en; walk_at "ea"))
local macro_rules | `(tactic| walk_at "edk") => `(tactic| first | (with_reducible apply ed_mk2; walk_at "ea"; walk_at "ea") | (with_reducible apply ed_dget; walk_at "ed"; walk_at "ed") | (with_reducible apply ed_din; walk_at "ed"; walk_at "ed") | (with_reducible apply ed_dnin; walk_at "ed"; walk_at "ed") | walk_at "edm")
local macro_rules | `(tactic| walk_at "ed+") => `(tactic| walk_at "edk")
local macro_rules | `(tactic| walk_at "ek") => `(tactic| first | with_reducible exact ek_new | (focus (with_reducible apply ek_dc; rotate_left; walk_at "ei"; walk_at "eg"; walk_at "et"; walk_at "ed"; walk_at "ed"; decide)))
local macro_rules | `(tactic| walk_at "svN") => `(tactic| first
  | (with_reducible apply sv_seq; walk_at "svN"; walk_at "svN")
  | (with_reducible apply sv_ins; walk_at "ed")
  | (with_reducible apply sv_asgK; walk_at "ek")
  | (with_reducible apply sv_asg; walk_at "ed")
  | (with_reducible apply sv_asgX; walk_at "ex")
  | (with_reducible apply sv_dropX; walk_at "ex")
  | (with_reducible apply sv_retX; walk_at "ex")
  | (with_reducible apply sv_dput; walk_at "ed"; walk_at "ed")
  | (with_reducible apply sv_raise rfl; decide; walk_at "ed")
  | (with_reducible apply sv_if; walk_at "et"; walk_at "svN"; walk_at "svN")
  | (with_reducible apply sv_for; walk_at "ei"; walk_at "es"; walk_at "svN")
  | walk_at "sv")
local macro_rules | `(tactic| walk_at "r2") => `(tactic| first | with_reducible exact r_I0 | with_reducible exact r_I | with_reducible exact r_eq | with_reducible exact r_ne | with_reducible exact r_isN | with_reducible exact r_notN | with_reducible exact r_ixL | with_reducible exact r_ixT | with_reducible exact r_ixQ | with_reducible exact r_inT)
local macro_rules | `(tactic| walk_at "ed+") => `(tactic| first | (with_reducible apply ed_slT; walk_at "ed"; walk_at "eo"; walk_at "eo") | walk_at "edk")
theorem cut1 (d : D) (l : List D) : cutD (d :: l) (some 1) none = l := by
  unfold cutD
  rw [HT.sIx_none, show (some (1 : Int)) = some ((1 : Nat) : Int) from rfl, HT.sIx_nat, List.length_cons, Nat.min_eq_left (by omega), List.drop_succ_cons, List.drop_zero, List.take_of_length_le (by omega)]
theorem not_whole (d : D) (l : List D) : ¬ (HT.sIx (d :: l).length 0 (some 1) = 0 ∧ HT.sIx (d :: l).length (d :: l).length none = (d :: l).length) := by
  rw [show (some (1 : Int)) = some ((1 : Nat) : Int) from rfl, HT.sIx_nat, List.length_cons, Nat.min_eq_left (by omega)]
  omega
section
variable {P : Program} {w : World} {K : PySem.W.Frag} {mg : Str → Option Value} {base : Heap} {C : Addr} {T : List (Addr × Str)} {cls : Str → Addr}
abbrev s_law_ties : Stmt := topS 40
def ltiM : List D → M D
  | [.tup [.int n1, .lst a1, .lst m1], .int p] => M.bnd (M.choose fun q : List Ks × List Ks => a1 = q.1.map tieD ∧ m1 = q.2.map tieD ∧ WebK n1 q.1 q.2) fun q => M.ret (.lst ((tiesAt q.1 q.2 p).map tieD))
  | _ => M.fail
theorem len_lti {ds : List D} {Q : _ → Prop} (h : (ltiM ds).run Q) : ds.length = 2 := by
  unfold ltiM at h
  split at h
  · rfl
  · exact h.elim
abbrev N_lti : List Str := ["_law_m", "_law_point", "_law_my_arrows", "_law_arrow", "_law_mark"]
theorem sc_lti : FnScope N_lti ["_law_m", "_law_point"] (defScope s_law_ties) := ⟨rfl, rfl, rfl, by decide +kernel, rfl, by decide +kernel, by decide +kernel⟩
theorem ok_lti {f : Addr} {fd : FuncData} (F : Fun K "_law_ties" "_law_ties" s_law_ties f fd) (b : Bq mg) : FnOk P w K mg base CX0 1 f fd ["_law_m", "_law_point"] (spD (mkS K C T cls) ltiM) := by
  refine F.ok sc_lti (fun vs H Q E h => ?_) (fun cdv A outer s H vs Q E hr h => ?_)
  · obtain ⟨B, G, ds, _, r, h⟩ := h
    rw [r.length]
    exact len_lti h
  · have hu5 : (A.deeper (envOfC "_law_ties" (defScope s_law_ties) s.heap.objs.size f cdv)).units + 65 < cLine := by
      have := hr.un
      omega
    have hu : (A.deeper (envOfC "_law_ties" (defScope s_law_ties) s.heap.objs.size f cdv)).units + 64 < cLine := by omega
    have hu1 : (A.deeper (envOfC "_law_ties" (defScope s_law_ties) s.heap.objs.size f cdv)).units + 1 < cLine := by omega
    refine ⟨_, (pss_cons (ps_setLc (i := 2) (own := [("_law_arrow", 3)]) (g := gName 3) (tt := _) rfl sc_lti.nd rfl rfl (sw_true rfl rfl rfl (by decide +kernel)) (di_list (K := K) rfl (pe_ix (dx_tup (K := K) rfl) (pv 0) pe_int (fun _ _ => rfl))) (blkOk_by (N := N_lti) (sc := defScope s_law_ties) (by decide +kernel)) (fun _ _ _ _ _ => (pg_name (i := 3) sc_lti.nd rfl (.inl rfl))) (fun _ _ _ _ _ => pts_one (pt_cmpR (dv_inS (K := K) rfl) (pv 1) (pe_slice (dv_slT (K := K) rfl) (pv 3) (po_some pe_int) po_none) (by rfl))) (fun _ _ _ _ _ => (pv 3)))
      (pss_one (ps_ret (pe_op op_cat (pv 2) (pe_lc (own := [("_law_mark", 4)]) (g := gName 4) (tt := _) rfl sc_lti.nd (di_list (K := K) rfl (pe_ix (dx_tup (K := K) rfl) (pv 0) pe_int (fun _ _ => rfl))) (blkOk_by (N := N_lti) (sc := defScope s_law_ties) (by decide +kernel)) (fun _ _ _ _ _ => (pg_name (i := 4) sc_lti.nd rfl (.inl rfl))) (fun _ _ _ _ _ => pts_one (pt_cmpR op_eq (pe_ix (dx_tup (K := K) rfl) (pv 4) pe_int (fun _ _ => rfl)) (pv 1) (nomark _))) (fun _ _ _ _ _ => (pv 4))))))), ?_⟩
    refine run_D (X := E) (S := mkS K C T cls) (N := N_lti) (by walk_at "svN") ?_ h
    intro ds Q hq
    unfold ltiM at hq
    split at hq
    · rename_i n1 a1 m1 p
      obtain ⟨⟨A1, M1⟩, ⟨rfl, rfl, w⟩, hq⟩ := hq
      dsimp only at w hq
      have la := w.la
      have lm := w.lm
      have e : startE N_lti.length [.tup [.int n1, .lst (A1.map tieD), .lst (M1.map tieD)], .int p] = [some (.f (.tup [.int n1, .lst (A1.map tieD), .lst (M1.map tieD)])), some (.f (.int p)), none, none, none] := rfl
      rw [e]
      simp only [run_bnd, run_ret, run_opt, run_req, run_all, run_choose, run_ite, then_nx, then_rt, then_rl, then_er, then_ct, then_bk, outD_rt, outD_rl, outD_nx, outL_rl, outX_rt, outX_rl, outX_nx, outX_er, mask_nil, mask_cons, mk0_f, mk0_o, mk0_od, mk0_ot, mk0_n, peek_nil, peek_cons, pk_f, pk_o, pk_od, pk_ot, pk_n, dOf_int, dOf_bl, dOf_str, dOf_non, opI0_int, opI_int, unI_int, asB_bl, asI_int, asL_lst, asT_tup, asW_web, eqS_int, eqS_str, ixL_lst, ixT_tup, ixQ_lst, ixQ_tup, lenD_lst, lenD_tup, listD_lst, listD_tup, catD_lst, rng1_int, rng2_int, sName_go, sTup_go, sCons_go, sNil_go, bTup_go, bCons_go, bNil_go, two_go, List.set_cons_zero, List.set_cons_succ, List.getElem?_cons_zero, List.getElem?_cons_succ, Option.join_some, atI_0, atI_1, atI_2, decide_eq_true_eq, wipeE, List.map_cons, List.map_nil, step_nx, step_ct, step_bk, step_rt, step_rl, step_er, vOf_int, vOf_str]
      refine ⟨by rw [List.length_map]; omega, ?_⟩
      refine ex_ret (M.sel_fltM (l := A1) (g := tieD) (p := touch p) (h := tieD) fun k hk => ?_) fun as has => ?_
      · obtain ⟨c, s, t, rfl, hc, s0, s1, t0, t1⟩ := w.ka k hk
        simp only [lcF_go, tieA', cut1, inT_go, run_bnd, run_ret, run_opt, run_req, run_all, run_choose, run_ite, then_nx, then_rt, then_rl, then_er, then_ct, then_bk, outD_rt, outD_rl, outD_nx, outL_rl, outX_rt, outX_rl, outX_nx, outX_er, mask_nil, mask_cons, mk0_f, mk0_o, mk0_od, mk0_ot, mk0_n, peek_nil, peek_cons, pk_f, pk_o, pk_od, pk_ot, pk_n, dOf_int, dOf_bl, dOf_str, dOf_non, opI0_int, opI_int, unI_int, asB_bl, asI_int, asL_lst, asT_tup, asW_web, eqS_int, eqS_str, ixL_lst, ixT_tup, ixQ_lst, ixQ_tup, lenD_lst, lenD_tup, listD_lst, listD_tup, catD_lst, rng1_int, rng2_int, sName_go, sTup_go, sCons_go, sNil_go, bTup_go, bCons_go, bNil_go, two_go, List.set_cons_zero, List.set_cons_succ, List.getElem?_cons_zero, List.getElem?_cons_succ, Option.join_some, atI_0, atI_1, atI_2, decide_eq_true_eq, wipeE, List.map_cons, List.map_nil, step_nx, step_ct, step_bk, step_rt, step_rl, step_er, vOf_int, vOf_str]
        refine ⟨not_whole _ _, [s, t], rfl, ?_⟩
        have e : touch p [.inr ⟨#[c]⟩, .inl s, .inl t] = decide (p ∈ [s, t]) := by
          show (decide (s = p) || decide (t = p)) = _
          rw [Bool.eq_iff_iff]
          simp only [Bool.or_eq_true, decide_eq_true_eq, List.mem_cons, List.not_mem_nil, or_false]
          constructor
          · rintro (h | h)
            · exact .inl h.symm
            · exact .inr h.symm
          · rintro (h | h)
            · exact .inl h.symm
            · exact .inr h.symm
        rw [e]
        by_cases h : p ∈ [s, t]
        · simp only [h, decide_true, if_true]
        · simp only [h, decide_false, Bool.false_eq_true, if_false]
      · rw [has]
        refine ⟨by rw [List.length_map]; omega, ?_⟩
        refine ex_ret (M.sel_fltM (l := M1) (g := tieD) (p := touch p) (h := tieD) fun k hk => ?_) fun bs hbs => ?_
        · obtain ⟨c, s, rfl, hc, s0, s1⟩ := w.km k hk
          simp only [lcF_go, tieM', run_bnd, run_ret, run_opt, run_req, run_all, run_choose, run_ite, then_nx, then_rt, then_rl, then_er, then_ct, then_bk, outD_rt, outD_rl, outD_nx, outL_rl, outX_rt, outX_rl, outX_nx, outX_er, mask_nil, mask_cons, mk0_f, mk0_o, mk0_od, mk0_ot, mk0_n, peek_nil, peek_cons, pk_f, pk_o, pk_od, pk_ot, pk_n, dOf_int, dOf_bl, dOf_str, dOf_non, opI0_int, opI_int, unI_int, asB_bl, asI_int, asL_lst, asT_tup, asW_web, eqS_int, eqS_str, ixL_lst, ixT_tup, ixQ_lst, ixQ_tup, lenD_lst, lenD_tup, listD_lst, listD_tup, catD_lst, rng1_int, rng2_int, sName_go, sTup_go, sCons_go, sNil_go, bTup_go, bCons_go, bNil_go, two_go, List.set_cons_zero, List.set_cons_succ, List.getElem?_cons_zero, List.getElem?_cons_succ, Option.join_some, atI_0, atI_1, atI_2, decide_eq_true_eq, wipeE, List.map_cons, List.map_nil, step_nx, step_ct, step_bk, step_rt, step_rl, step_er, vOf_int, vOf_str]
          have e : touch p [.inr ⟨#[c]⟩, .inl s] = decide (s = p) := rfl
          rw [e]
          by_cases h : s = p
          · simp only [h, decide_true, if_true]
          · simp only [h, decide_false, Bool.false_eq_true, if_false]
        · rw [hbs]
          have e9 : (A1.filter (touch p)).map tieD ++ (M1.filter (touch p)).map tieD = (tiesAt A1 M1 p).map tieD := by
            unfold tiesAt
            rw [List.map_append]
          have l1 : (A1.filter (touch p)).length ≤ A1.length := List.length_filter_le ..
          have l2 : (M1.filter (touch p)).length ≤ M1.length := List.length_filter_le ..
          simp only [run_bnd, run_ret, run_opt, run_req, run_all, run_choose, run_ite, then_nx, then_rt, then_rl, then_er, then_ct, then_bk, outD_rt, outD_rl, outD_nx, outL_rl, outX_rt, outX_rl, outX_nx, outX_er, mask_nil, mask_cons, mk0_f, mk0_o, mk0_od, mk0_ot, mk0_n, peek_nil, peek_cons, pk_f, pk_o, pk_od, pk_ot, pk_n, dOf_int, dOf_bl, dOf_str, dOf_non, opI0_int, opI_int, unI_int, asB_bl, asI_int, asL_lst, asT_tup, asW_web, eqS_int, eqS_str, ixL_lst, ixT_tup, ixQ_lst, ixQ_tup, lenD_lst, lenD_tup, listD_lst, listD_tup, catD_lst, rng1_int, rng2_int, sName_go, sTup_go, sCons_go, sNil_go, bTup_go, bCons_go, bNil_go, two_go, List.set_cons_zero, List.set_cons_succ, List.getElem?_cons_zero, List.getElem?_cons_succ, Option.join_some, atI_0, atI_1, atI_2, decide_eq_true_eq, wipeE, List.map_cons, List.map_nil, step_nx, step_ct, step_bk, step_rt, step_rl, step_er, vOf_int, vOf_str, List.length_map, e9]
          refine ⟨by omega, hq⟩
    · exact hq.elim
end
end Dv
namespace Dv
open PySem PySem.Spec PyProof.Rows L2 RZ Sg Tm Wb
local macro_rules | `(tactic| walk_at "r2") => `(tactic| first | with_reducible exact r_I0 | with_reducible exact r_I | with_reducible exact r_eq | with_reducible exact r_ne | with_reducible exact r_isN | with_reducible exact r_notN | with_reducible exact r_ixL | with_reducible exact r_ixT | with_reducible exact r_ixQ | with_reducible exact r_eqD | with_reducible exact r_neD | with_reducible exact r_inD | with_reducible exact r_notInD | with_reducible exact r_isB | with_reducible exact r_notB)
local macro_rules | `(tactic| walk_at "r2l") => `(tactic| first | with_reducible exact r_cat)
local macro_rules | `(tactic| walk_at "rc") => `(tactic| first | with_reducible exact r_len | with_reducible exact r_all)
local macro_rules | `(tactic| walk_at "rcl") => `(tactic| first | with_reducible exact r_list)
local macro_rules | `(tactic| walk_at "eo") => `(tactic| first | with_reducible exact eo_none | (with_reducible apply eo_some; walk_at "ed"))
local macro_rules | `(tactic| walk_at "ea") => `(tactic| first | with_reducible exact ea_nil | (with_reducible apply ea_star; walk_at "ed"; walk_at "ea") | (with_reducible apply ea_cons; walk_at "ed"; walk_at "ea"))
local macro_rules | `(tactic| walk_at "et") => `(tactic| first
  | with_reducible exact et_yes
  | (with_reducible apply et_test; walk_at "ed") | (with_reducible apply et_B; walk_at "ed") | (with_reducible apply et_not; walk_at "et")
  | (with_reducible apply et_and; walk_at "et"; walk_at "et") | (with_reducible apply et_or; walk_at "et"; walk_at "et"))
local macro_rules | `(tactic| walk_at "eg") => `(tactic| first | with_reducible exact eg_name | (with_reducible apply eg_tup; walk_at "egs"))
local macro_rules | `(tactic| walk_at "egs") => `(tactic| first | with_reducible exact eg_nil | (with_reducible apply eg_cons; walk_at "eg"; walk_at "egs"))
local macro_rules | `(tactic| walk_at "es") => `(tactic| first | with_reducible exact es_name | (with_reducible apply es_tup; walk_at "ess"))
local macro_rules | `(tactic| walk_at "ess") => `(tactic| first | with_reducible exact es_nil | (with_reducible apply es_cons; walk_at "es"; walk_at "ess"))
local macro_rules | `(tactic| walk_at "ei") => `(tactic| first | (with_reducible apply ei_list; walk_at "ed") | (with_reducible apply ei_tup; walk_at "ed") | (with_reducible apply ei_rng1; walk_at "ea") | (with_reducible apply ei_rng2; walk_at "ea") | (with_reducible apply ei_str; walk_at "ed"))
local macro_rules | `(tactic| walk_at "el") => `(tactic| first
  | (with_reducible apply el_lst; walk_at "ea")
  | (focus (with_reducible apply el_lc; rotate_left; walk_at "ei"; walk_at "eg"; walk_at "et"; walk_at "ed"; decide))
  | (with_reducible apply el_op; walk_at "r2l"; walk_at "ed"; walk_at "ed")
  | (with_reducible apply el_cb; walk_at "rcl"; walk_at "ea")
  | (with_reducible apply el_sl; walk_at "ed"; walk_at "eo"; walk_at "eo")
  | (with_reducible apply el_call; walk_at "ea")
  | walk_at "el+"
  | (with_reducible apply el_meth; decide; walk_at "ed"; walk_at "ea"))
local macro_rules | `(tactic| walk_at "ed") => `(tactic| first
  | with_reducible exact ed_var | with_reducible exact ed_c
  | (with_reducible apply ed_op; walk_at "r2"; walk_at "ed"; walk_at "ed")
  | (with_reducible apply ed_call; walk_at "ea")
  | (with_reducible apply ed_callX; walk_at "ea")
  | (with_reducible apply ed_tup; walk_at "ea")
  | (with_reducible apply ed_if; walk_at "et"; walk_at "ed"; walk_at "ed")
  | (with_reducible apply ed_cb; walk_at "rc"; walk_at "ea")
  | (with_reducible apply ed_un r_U; walk_at "ed")
  | (with_reducible apply ed_chain; walk_at "r2"; walk_at "r2"; walk_at "ed"; walk_at "ed"; walk_at "ed")
  | (with_reducible apply ed_andV; walk_at "ed"; walk_at "ed") | (with_reducible apply ed_orV; walk_at "ed"; walk_at "ed")
  | (with_reducible apply ed_meth; decide; walk_at "ed"; walk_at "ea")
  | walk_at "ed+"
  | (with_reducible apply EvL.d; walk_at "el"))
local macro_rules | `(tactic| walk_at "svF") => `(tactic| first
  | (with_reducible apply sv_seq; walk_at "svF"; walk_at "svF")
  | (with_reducible apply sv_asg; walk_at "ed")
  | (with_reducible apply sv_if; walk_at "et"; walk_at "svF"; walk_at "svF")
  | (with_reducible apply sv_for; walk_at "ei"; walk_at "es"; walk_at "svF")
  | walk_at "sv")
local macro_rules | `(tactic| walk_at "sv") => `(tactic| first
  | with_reducible exact sv_next | with_reducible exact sv_break | with_reducible exact sv_cont | with_reducible exact sv_never | with_reducible exact sv_retN
  | (with_reducible apply sv_seq; walk_at "sv"; walk_at "sv")
  | (with_reducible apply sv_asgL; walk_at "el")
  | (with_reducible apply sv_asg; walk_at "ed")
  | (with_reducible apply sv_if; walk_at "et"; walk_at "sv"; walk_at "sv")
  | (with_reducible apply sv_for; walk_at "ei"; walk_at "es"; walk_at "sv")
  | (with_reducible apply sv_par; walk_at "ea")
  | (with_reducible apply sv_app; walk_at "ed")
  | (with_reducible apply sv_ret; walk_at "ed")
  | (with_reducible apply sv_asgT; walk_at "ed"; walk_at "es")
  | (with_reducible apply sv_drop; walk_at "ed"))
local macro_rules | `(tactic| walk_at "rc") => `(tactic| first | with_reducible exact r_len | with_reducible exact r_all | with_reducible exact r_max | with_reducible exact r_min)
local macro_rules | `(tactic| walk_at "rcl") => `(tactic| first | with_reducible exact r_list | with_reducible exact r_sort)
local macro_rules | `(tactic| walk_at "el+") => `(tactic| (with_reducible apply el_listRg; walk_at "ed"))
local macro_rules | `(tactic| walk_at "edm") => `(tactic| first | (with_reducible apply ed_index; walk_at "ed"; walk_at "ed") | (with_reducible apply ed_dget2; walk_at "ed"; walk_at "ed"; walk_at "ed") | with_reducible exact ed_disp2 | (with_reducible apply ed_chain; walk_at "r2"; walk_at "r2"; walk_at "ed"; walk_at "ed"; walk_at "ed"))
local macro_rules | `(tactic| walk_at "ed+") => `(tactic| walk_at "edm")
local macro_rules | `(tactic| walk_at "ex") => `(tactic| first | (with_reducible apply ex_callI; walk_at "ea") | (with_reducible apply ex_call; walk_at "ea") | (with_reducible apply ex_opL; walk_at "r2"; walk_at "ex"; walk_at "ed"))
local macro_rules | `(tactic| walk_at "svM") => `(tactic| first
  | (with_reducible apply sv_seq; walk_at "svM"; walk_at "svM")
  | (with_reducible apply sv_ins; walk_at "ed")
  | (with_reducible apply sv_asg; walk_at "ed")
  | (with_reducible apply sv_asgX; walk_at "ex")
  | (with_reducible apply sv_retX; walk_at "ex")
  | (with_reducible apply sv_if; walk_at "et"; walk_at "svM"; walk_at "svM")
  | (with_reducible apply sv_for; walk_at "ei"; walk_at "es"; walk_at "svM")
  | walk_at "sv")
local macro_rules | `(tactic| walk_at "rc") => `(tactic| first | with_reducible exact r_len | with_reducible exact r_lenK | with_reducible exact r_all | with_reducible exact r_max | with_reducible exact r_min | with_reducible exact r_max1 | with_reducible exact r_min1 | with_reducible exact r_int | with_reducible exact r_tup)
local macro_rules | `(tactic| walk_at "ei") => `(tactic| first | (with_reducible apply ei_list; walk_at "ed") | (with_reducible apply ei_tup; walk_at "ed") | (with_reducible apply ei_rng1; walk_at "ea") | (with_reducible apply ei_rng2; walk_at "ea") | (with_reducible apply ei_str; walk_at "ed") | (with_reducible apply ei_en; walk_at "ea"))
local macro_rules | `(tactic| walk_at "edk") => `(tactic| first | (with_reducible apply ed_mk2; walk_at "ea"; walk_at "ea") | (with_reducible apply ed_dget; walk_at "ed"; walk_at "ed") | (with_reducible apply ed_din; walk_at "ed"; walk_at "ed") | (with_reducible apply ed_dnin; walk_at "ed"; walk_at "ed") | walk_at "edm")
local macro_rules | `(tactic| walk_at "ed+") => `(tactic| walk_at "edk")
local macro_rules | `(tactic| walk_at "ek") => `(tactic| first | with_reducible exact ek_new | (focus (with_reducible apply ek_dc; rotate_left; walk_at "ei"; walk_at "eg"; walk_at "et"; walk_at "ed"; walk_at "ed"; decide)))
local macro_rules | `(tactic| walk_at "svN") => `(tactic| first
  | (with_reducible apply sv_seq; walk_at "svN"; walk_at "svN")
  | (with_reducible apply sv_ins; walk_at "ed")
  | (with_reducible apply sv_asgK; walk_at "ek")
  | (with_reducible apply sv_asg; walk_at "ed")
  | (with_reducible apply sv_asgX; walk_at "ex")
  | (with_reducible apply sv_dropX; walk_at "ex")
  | (with_reducible apply sv_retX; walk_at "ex")
  | (with_reducible apply sv_dput; walk_at "ed"; walk_at "ed")
  | (with_reducible apply sv_raise rfl; decide; walk_at "ed")
  | (with_reducible apply sv_if; walk_at "et"; walk_at "svN"; walk_at "svN")
  | (with_reducible apply sv_for; walk_at "ei"; walk_at "es"; walk_at "svN")
  | walk_at "sv")
local macro_rules | `(tactic| walk_at "ek") => `(tactic| first | with_reducible exact ek_new | (with_reducible apply ek_disp1; walk_at "ed"; walk_at "ed") | (focus (with_reducible apply ek_dc; rotate_left; walk_at "ei"; walk_at "eg"; walk_at "et"; walk_at "ed"; walk_at "ed"; decide)))
local macro_rules | `(tactic| walk_at "svT") => `(tactic| first
  | (with_reducible apply sv_seq; walk_at "svT"; walk_at "svT")
  | with_reducible exact sv_pop
  | (with_reducible apply sv_asg; with_reducible apply EvL.d; with_reducible apply el_call; walk_at "ea")
  | (with_reducible apply sv_asgK; walk_at "ek")
  | (with_reducible apply sv_dput; walk_at "ed"; walk_at "ed")
  | (with_reducible apply sv_if; walk_at "et"; walk_at "svT"; walk_at "svT")
  | (with_reducible apply sv_for; walk_at "ei"; walk_at "es"; walk_at "svT")
  | (with_reducible apply sv_while; walk_at "et"; walk_at "svT")
  | with_reducible exact sv_retV
  | walk_at "sv")
def seenE (l : List Int) : List (Key × D) := l.map fun p => (.inl p, .bl true)
theorem seen_val (x : Int) : ∀ l : List Int, (valD (seenE l) (.inl x)).isSome = decide (x ∈ l)
  | [] => rfl
  | p :: l => by
    show (valD ((.inl p, .bl true) :: seenE l) (.inl x)).isSome = _
    rw [valD_cons]
    by_cases e : p = x
    · subst e
      simp
    · rw [if_neg fun z => e (Sum.inl.inj z), seen_val x l]
      have : (x ∈ p :: l) ↔ x ∈ l := ⟨fun z => (List.mem_cons.mp z).resolve_left fun z => e z.symm, List.mem_cons_of_mem _⟩
      simp only [this]
theorem seen_put {x : Int} {l : List Int} (h : x ∉ l) : putD (seenE l) (.inl x) (.bl true) = seenE (l ++ [x]) := by
  have : valD (seenE l) (.inl x) = none := by
    have e := seen_val x l
    rw [decide_eq_false h] at e
    cases hh : valD (seenE l) (.inl x) with
    | none => rfl
    | some _ => rw [hh] at e; cases e
  rw [putD_new this]
  unfold seenE
  rw [List.map_append]
  rfl
theorem dnin_go (es : List (Key × D)) (i : Int) : dinM true (.int i) (.dk es) = M.ret (.bl (!(valD es (.inl i)).isSome)) := rfl
theorem arrows3 {n : Int} {As Ms : List Ks} (w : WebK n As Ms) (x : Int) : ((tiesAt As Ms x).map tieD).filter (fun d => match d with | .tup l => decide (l.length = 3) | _ => false) = (As.filter (touch x)).map tieD := by
  unfold tiesAt
  rw [List.map_append, List.filter_append]
  have h1 : ((As.filter (touch x)).map tieD).filter (fun d => match d with | .tup l => decide (l.length = 3) | _ => false) = (As.filter (touch x)).map tieD := List.filter_eq_self.mpr fun d hd => by
    obtain ⟨k, hk, rfl⟩ := List.mem_map.mp hd
    obtain ⟨c, s, t, rfl, _⟩ := w.ka k (List.mem_filter.mp hk).1
    rfl
  have h2 : ((Ms.filter (touch x)).map tieD).filter (fun d => match d with | .tup l => decide (l.length = 3) | _ => false) = [] := List.filter_eq_nil_iff.mpr fun d hd => by
    obtain ⟨k, hk, rfl⟩ := List.mem_map.mp hd
    obtain ⟨c, s, rfl, _⟩ := w.km k (List.mem_filter.mp hk).1
    exact fun z => absurd (of_decide_eq_true (show decide ((2 : Nat) = 3) = true from z)) (by omega)
  rw [h1, h2, List.append_nil]
theorem rows_at {n x : Int} {f : Int → D} (h0 : 0 ≤ x) (h1 : x < n) : L2.atI ((ptsL n).map f) x = some (f x) := by
  rw [atI_get h0 (by rw [List.length_map, List.length_map, List.length_range]; omega), List.getElem_map, List.getElem_map, List.getElem_range]
  rw [Int.toNat_of_nonneg h0]
theorem own3 (a b c : Option Sl) (es : List (Key × D)) (ρ : Ev) : ownK (a :: b :: c :: some (.od es) :: ρ) 3 = M.ret es := rfl
theorem pts_less {n r p : Int} {As : List Ks} {R : List HRow} (h : Hang n As r R) (hp : p ∉ ptsOf r R) (hr : 0 ≤ p ∧ p < n) : R.length + 2 ≤ n.toNat := by
  have nd : (p :: ptsOf r R).Nodup := List.nodup_cons.mpr ⟨hp, h.nd⟩
  have := List.Nodup.length_le_of_subset nd (l₂ := ptsL n) fun x hx => mem_rng.mpr (by
    rcases List.mem_cons.mp hx with rfl | hx
    · omega
    · have := h.rg x hx
      omega)
  simp only [ptsOf, List.length_cons, List.length_map, List.length_range] at this
  omega
theorem pts_snoc (r : Int) (R : List HRow) (q : HRow) : ptsOf r (R ++ [q]) = ptsOf r R ++ [q.1] := by simp [ptsOf]
theorem Hang.snoc {n r : Int} {As : List Ks} {R : List HRow} {q : HRow} (h : Hang n As r R) (hq : q.1 ∉ ptsOf r R) (hr : 0 ≤ q.1 ∧ q.1 < n) (ha : q.2.1 ∈ ptsOf r R) (hk : q.2.2 ∈ As) (hs : ∃ c : Str, q.2.2 = [.inr c, .inl q.2.1, .inl q.1] ∨ q.2.2 = [.inr c, .inl q.1, .inl q.2.1]) : Hang n As r (R ++ [q]) := by
  refine ⟨?_, fun p hp => ?_, fun i hi => ?_⟩
  · rw [pts_snoc]
    refine List.nodup_append.mpr ⟨h.nd, List.nodup_cons.mpr ⟨(fun z => nomatch z), List.nodup_nil⟩, fun a ha b hb e => ?_⟩
    rw [e, List.mem_singleton.mp hb] at ha
    exact hq ha
  · rw [pts_snoc] at hp
    rcases List.mem_append.mp hp with hp | hp
    · exact h.rg p hp
    · rw [List.mem_singleton.mp hp]
      exact hr
  · rw [List.length_append, List.length_singleton] at hi
    by_cases e : i < R.length
    · rw [List.getElem_append_left e, List.take_append_of_le_length (by omega)]
      exact h.up i e
    · obtain rfl : i = R.length := by omega
      rw [List.getElem_append_right (Nat.le_refl _), List.take_left']
      · simp only [Nat.sub_self, List.getElem_cons_zero]
        exact ⟨ha, hk, hs⟩
      · rfl
theorem touch_adj {n x : Int} {As Ms : List Ks} (w : WebK n As Ms) {y : Int} (h : Adj As x y) : ∃ k ∈ As.filter (touch x), endK x k = y := by
  obtain ⟨c, h⟩ := h
  rcases h with h | h
  · refine ⟨_, List.mem_filter.mpr ⟨h, ?_⟩, ?_⟩
    · show (decide (x = x) || decide (y = x)) = true
      rw [decide_eq_true rfl]
      rfl
    · show (if x = x then y else x) = y
      rw [if_pos rfl]
  · refine ⟨_, List.mem_filter.mpr ⟨h, ?_⟩, ?_⟩
    · show (decide (y = x) || decide (x = x)) = true
      rw [decide_eq_true (show x = x from rfl), Bool.or_true]
    · show (if y = x then x else y) = y
      by_cases e : y = x
      · rw [if_pos e, e]
      · rw [if_neg e]
section
variable {P : Program} {w : World} {K : PySem.W.Frag} {mg : Str → Option Value} {base : Heap} {C : Addr} {T : List (Addr × Str)} {cls : Str → Addr}
abbrev sHang : Stmt := topS 22
def hgM : List D → M (List D)
  | [.web n As Ms, .int r] => M.bnd (M.req (WebK n As Ms ∧ n ≤ 81 ∧ 0 ≤ r ∧ r < n)) fun _ => M.bnd (M.all fun R : List HRow => Hang n As r R ∧ Shut As (ptsOf r R)) fun R => M.ret (R.map rowD)
  | _ => M.fail
theorem len_hg {ds : List D} {Q : _ → Prop} (h : (hgM ds).run Q) : ds.length = 2 := by
  unfold hgM at h
  split at h
  · rfl
  · exact h.elim
abbrev N_hg : List Str := ["web", "root", "touching", "seen", "fresh", "rows", "ahead", "arrow", "tie", "point"]
theorem sc_hg : FnScope N_hg ["web", "root"] (defScope sHang) := ⟨rfl, rfl, rfl, by decide +kernel, rfl, by decide +kernel, by decide +kernel⟩
theorem ok_hg {f fR fO : Addr} {fd dR dO : FuncData} (F : Fun K "hanging" "hanging" sHang f fd) (b : Bq mg) (oR : Df P w K mg base 2 "tie_rows" ["web"] (spL (mkS K C T cls) trM) fR dR) (oO : Df P w K mg base 1 "other_end" ["arrow", "point"] (spD (mkS K C T cls) oeM) fO dO) : FnOk P w K mg base CX0 3 f fd ["web", "root"] (spL (mkS K C T cls) hgM) := by
  refine F.ok sc_hg (fun vs H Q E h => ?_) (fun cdv A outer s H vs Q E hr h => ?_)
  · obtain ⟨B, G, ds, _, r, h⟩ := h
    rw [r.length]
    exact len_hg h
  · have hu5 : (A.deeper (envOfC "hanging" (defScope sHang) s.heap.objs.size f cdv)).units + 65 < cLine := by
      have := hr.un
      omega
    have hu : (A.deeper (envOfC "hanging" (defScope sHang) s.heap.objs.size f cdv)).units + 64 < cLine := by omega
    have hu1 : (A.deeper (envOfC "hanging" (defScope sHang) s.heap.objs.size f cdv)).units + 1 < cLine := by omega
    refine ⟨_, (pss_cons (ps_set (i := 2) sc_hg.nd rfl (.inl rfl) (pe_call oR.ok (hr.mono (by decide)) (by rfl) oR.gl oR.kp oR.bd .nil pass0 (pa_cons (pv 0) pa_nil)))
      (pss_cons (ps_set (i := 3) sc_hg.nd rfl (.inl rfl) (pe_disp (pps_cons (pv 1) pe_bl pps_nil) rfl rfl (fun z => nomatch z) (by decide)))
      (pss_cons (ps_set (i := 4) sc_hg.nd rfl (.inl rfl) (pe_lst (pa_cons (pv 1) pa_nil)))
      (pss_cons (ps_set (i := 5) sc_hg.nd rfl (.inl rfl) (pe_lst pa_nil))
      (pss_cons (ps_while PassesOwn.never (pt_cmpR op_gt (pe_callB (dv_len (K := K) rfl) (by rfl) b.len PySem.boot_len (pa_cons (pv 4) pa_nil)) pe_int (nomark _))
      (pss_cons (ps_set (i := 6) sc_hg.nd rfl (.inl rfl) (pe_bm0Q (K := K) rfl PySem.F.plainAttrs_list PySem.F.slot_list_pop PySem.F.type_list_pop mt_pop (pv 4)))
      (pss_one (ps_for PassesOwn.never rfl (di_list (K := K) rfl (pe_lc (own := [("tie", 8)]) (g := gName 8) (tt := _) rfl sc_hg.nd (di_list (K := K) rfl (pe_ix (dx_list (K := K) rfl) (pv 2) (pv 6) (fun _ _ => rfl))) (blkOk_by (N := N_hg) (sc := defScope sHang) (by decide +kernel)) (fun _ _ _ _ _ => (pg_name (i := 8) sc_hg.nd rfl (.inl rfl))) (fun _ _ _ _ _ => pts_one (pt_cmpR op_eq (pe_callB (dv_len (K := K) rfl) (by rfl) b.len PySem.boot_len (pa_cons (pv 8) pa_nil)) pe_int (nomark _))) (fun _ _ _ _ _ => (pv 8)))) (pg_name (i := 7) sc_hg.nd rfl (.inl rfl))
      (pss_cons (ps_set (i := 9) sc_hg.nd rfl (.inl rfl) (pe_call oO.ok (hr.mono (by decide)) (by rfl) oO.gl oO.kp oO.bd .nil pass0 (pa_cons (pv 7) (pa_cons (pv 6) pa_nil))))
      (pss_one (ps_if (pt_cmp (pc_dnotin hu1 (pv 9) (pv 3)) (by rfl)) (pss_cons (ps_dput hu1 (pv 3) (pv 9) pe_bl (by rfl))
      (pss_cons (ps_expr (pe_bmK (K := K) rfl PySem.F.plainAttrs_list PySem.F.slot_list_append PySem.F.type_list_append mt_append (pv 4) (pa_cons (pv 9) pa_nil)))
      (pss_one (ps_expr (pe_bmK (K := K) rfl PySem.F.plainAttrs_list PySem.F.slot_list_append PySem.F.type_list_append mt_append (pv 5) (pa_cons (pe_tup (pa_cons (pv 9) (pa_cons (pv 6) (pa_cons (pv 7) pa_nil)))) pa_nil)))))) pss_nil)))))))
      (pss_one (ps_ret (pv 5)))))))), ?_⟩
    refine run_L (X := E) (S := mkS K C T cls) (N := N_hg) (by walk_at "svT") ?_ h
    intro ds Q hq
    unfold hgM at hq
    split at hq
    · rename_i n As Ms r
      obtain ⟨⟨w, hn, r0, r1⟩, hq⟩ := hq
      have la := w.la
      have lm := w.lm
      have e : startE N_hg.length [.web n As Ms, .int r] = [some (.f (.web n As Ms)), some (.f (.int r)), none, none, none, none, none, none, none, none] := rfl
      rw [e]
      simp only [tr_go, keyOf_int, optS, run_bnd, run_ret, run_opt, run_req, run_all, run_choose, run_ite, then_nx, then_rt, then_rl, then_er, then_ct, then_bk, outD_rt, outD_rl, outD_nx, outL_rl, outX_rt, outX_rl, outX_nx, outX_er, mask_nil, mask_cons, mk0_f, mk0_o, mk0_od, mk0_ot, mk0_n, peek_nil, peek_cons, pk_f, pk_o, pk_od, pk_ot, pk_n, dOf_int, dOf_bl, dOf_str, dOf_non, opI0_int, opI_int, unI_int, asB_bl, asI_int, asL_lst, asT_tup, asW_web, eqS_int, eqS_str, ixL_lst, ixT_tup, ixQ_lst, ixQ_tup, lenD_lst, lenD_tup, listD_lst, listD_tup, catD_lst, rng1_int, rng2_int, sName_go, sTup_go, sCons_go, sNil_go, bTup_go, bCons_go, bNil_go, two_go, List.set_cons_zero, List.set_cons_succ, List.getElem?_cons_zero, List.getElem?_cons_succ, Option.join_some, atI_0, atI_1, atI_2, decide_eq_true_eq, wipeE, List.map_cons, List.map_nil, step_nx, step_ct, step_bk, step_rt, step_rl, step_er, vOf_int, vOf_str]
      refine ⟨by show 1 ≤ 100000; decide, by show 0 ≤ 100000; decide, ?_⟩
      have hnil : Hang n As r [] := ⟨List.nodup_cons.mpr ⟨(fun z => nomatch z), List.nodup_nil⟩, fun p hp => by rw [List.mem_singleton.mp hp]; exact ⟨r0, r1⟩, fun i hi => absurd hi (Nat.not_lt_zero _)⟩
      have fin : ∀ (R : List HRow) (y6 y7 y8 y9 : Option Sl), Hang n As r R → (∀ x ∈ ptsOf r R, ∀ y, Adj As x y → y ∈ ptsOf r R) → (M.bnd (ownL [some (.f (.web n As Ms)), some (.f (.int r)), some (.f (.lst ((ptsL n).map fun p => lD (tiesAt As Ms p)))), some (.od (seenE (ptsOf r R))), some (.o []), some (.o (R.map rowD)), y6, y7, y8, y9] 5) fun ds => M.ret (Ou.rl ds)).run (outL Q) := fun R y6 y7 y8 y9 hg hs => hq R ⟨hg, hs⟩
      refine while_run (fun m ρ => ∃ (R : List HRow) (fr : List Int) (y6 y7 y8 y9 : Option Sl), ρ = [some (.f (.web n As Ms)), some (.f (.int r)), some (.f (.lst ((ptsL n).map fun p => lD (tiesAt As Ms p)))), some (.od (seenE (ptsOf r R))), some (.o (fr.map D.int)), some (.o (R.map rowD)), y6, y7, y8, y9] ∧ Hang n As r R ∧ (∀ x ∈ fr, x ∈ ptsOf r R) ∧ (∀ x ∈ ptsOf r R, x ∉ fr → ∀ y, Adj As x y → y ∈ ptsOf r R) ∧ m + R.length + 1 = fr.length + n.toNat ∧ fr.length ≤ R.length + 1) ?_ ?_ n.toNat _ ⟨[], [r], _, _, _, _, rfl, hnil, fun x hx => by rw [List.mem_singleton.mp hx]; exact List.mem_cons_self .., fun x hx hn => absurd hx hn, by show n.toNat + 0 + 1 = 1 + n.toNat; omega, Nat.le_refl _⟩
      · rintro ρ ⟨R, fr, y6, y7, y8, y9, rfl, hg, hf, hc, hm, hlf⟩
        have hle : R.length + 1 ≤ n.toNat := by
          have a := List.Nodup.length_le_of_subset hg.nd (l₂ := ptsL n) fun x hx => mem_rng.mpr (by
            have := hg.rg x hx
            omega)
          simp only [ptsOf, List.length_cons, List.length_map, List.length_range] at a
          exact a
        obtain rfl : fr = [] := List.eq_nil_of_length_eq_zero (by omega)
        simp only [Sl.data, run_bnd, run_ret, run_opt, run_req, run_all, run_choose, run_ite, then_nx, then_rt, then_rl, then_er, then_ct, then_bk, outD_rt, outD_rl, outD_nx, outL_rl, outX_rt, outX_rl, outX_nx, outX_er, mask_nil, mask_cons, mk0_f, mk0_o, mk0_od, mk0_ot, mk0_n, peek_nil, peek_cons, pk_f, pk_o, pk_od, pk_ot, pk_n, dOf_int, dOf_bl, dOf_str, dOf_non, opI0_int, opI_int, unI_int, asB_bl, asI_int, asL_lst, asT_tup, asW_web, eqS_int, eqS_str, ixL_lst, ixT_tup, ixQ_lst, ixQ_tup, lenD_lst, lenD_tup, listD_lst, listD_tup, catD_lst, rng1_int, rng2_int, sName_go, sTup_go, sCons_go, sNil_go, bTup_go, bCons_go, bNil_go, two_go, List.set_cons_zero, List.set_cons_succ, List.getElem?_cons_zero, List.getElem?_cons_succ, Option.join_some, atI_0, atI_1, atI_2, decide_eq_true_eq, wipeE, List.map_cons, List.map_nil, step_nx, step_ct, step_bk, step_rt, step_rl, step_er, vOf_int, vOf_str, List.length_nil]
        exact ⟨by decide, fin R y6 y7 y8 y9 hg fun x hx => hc x hx (fun z => nomatch z)⟩
      · rintro m ρ ⟨R, fr, y6, y7, y8, y9, rfl, hg, hf, hc, hm, hlf⟩
        simp only [Sl.data, run_bnd, run_ret, run_opt, run_req, run_all, run_choose, run_ite, then_nx, then_rt, then_rl, then_er, then_ct, then_bk, outD_rt, outD_rl, outD_nx, outL_rl, outX_rt, outX_rl, outX_nx, outX_er, mask_nil, mask_cons, mk0_f, mk0_o, mk0_od, mk0_ot, mk0_n, peek_nil, peek_cons, pk_f, pk_o, pk_od, pk_ot, pk_n, dOf_int, dOf_bl, dOf_str, dOf_non, opI0_int, opI_int, unI_int, asB_bl, asI_int, asL_lst, asT_tup, asW_web, eqS_int, eqS_str, ixL_lst, ixT_tup, ixQ_lst, ixQ_tup, lenD_lst, lenD_tup, listD_lst, listD_tup, catD_lst, rng1_int, rng2_int, sName_go, sTup_go, sCons_go, sNil_go, bTup_go, bCons_go, bNil_go, two_go, List.set_cons_zero, List.set_cons_succ, List.getElem?_cons_zero, List.getElem?_cons_succ, Option.join_some, atI_0, atI_1, atI_2, decide_eq_true_eq, wipeE, List.map_cons, List.map_nil, step_nx, step_ct, step_bk, step_rt, step_rl, step_er, vOf_int, vOf_str, List.length_map]
        by_cases hfr : fr = []
        · subst hfr
          rw [if_neg (by decide)]
          exact fin R y6 y7 y8 y9 hg fun x hx => hc x hx (fun z => nomatch z)
        · have hpos : 0 < fr.length := List.length_pos_iff.mpr hfr
          rw [if_pos (by omega)]
          obtain ⟨fs, x, rfl⟩ : ∃ fs x, fr = fs ++ [x] := ⟨fr.dropLast, fr.getLast hfr, (List.dropLast_concat_getLast hfr).symm⟩
          have hx := hf x (by simp)
          have hxr := hg.rg x hx
          have el : (fs ++ [x]).map D.int = fs.map D.int ++ [.int x] := by rw [List.map_append]; rfl
          rw [el]
          simp only [own_0, own_S, List.getLast?_concat, List.dropLast_concat, optS, rows_at hxr.1 hxr.2, lD, run_bnd, run_ret, run_opt, run_req, run_all, run_choose, run_ite, then_nx, then_rt, then_rl, then_er, then_ct, then_bk, outD_rt, outD_rl, outD_nx, outL_rl, outX_rt, outX_rl, outX_nx, outX_er, mask_nil, mask_cons, mk0_f, mk0_o, mk0_od, mk0_ot, mk0_n, peek_nil, peek_cons, pk_f, pk_o, pk_od, pk_ot, pk_n, dOf_int, dOf_bl, dOf_str, dOf_non, opI0_int, opI_int, unI_int, asB_bl, asI_int, asL_lst, asT_tup, asW_web, eqS_int, eqS_str, ixL_lst, ixT_tup, ixQ_lst, ixQ_tup, lenD_lst, lenD_tup, listD_lst, listD_tup, catD_lst, rng1_int, rng2_int, sName_go, sTup_go, sCons_go, sNil_go, bTup_go, bCons_go, bNil_go, two_go, List.set_cons_zero, List.set_cons_succ, List.getElem?_cons_zero, List.getElem?_cons_succ, Option.join_some, atI_0, atI_1, atI_2, decide_eq_true_eq, wipeE, List.map_cons, List.map_nil, step_nx, step_ct, step_bk, step_rt, step_rl, step_er, vOf_int, vOf_str]
          refine ⟨?_, ?_⟩
          · rw [List.length_map]
            unfold tiesAt
            have a1 := List.length_filter_le (touch x) As
            have a2 := List.length_filter_le (touch x) Ms
            rw [List.length_append]
            omega
          refine ex_ret (M.sel_flt (p := fun d => match d with | .tup l => decide (l.length = 3) | _ => false) (g := fun d => d) fun d hd => ?_) fun bs hbs => ?_
          · obtain ⟨k, hk, rfl⟩ := List.mem_map.mp hd
            have hl : ∃ l, tieD k = .tup l := ⟨_, rfl⟩
            obtain ⟨l, hl⟩ := hl
            rw [hl]
            simp only [lcF_go, run_bnd, run_ret, run_opt, run_req, run_all, run_choose, run_ite, then_nx, then_rt, then_rl, then_er, then_ct, then_bk, outD_rt, outD_rl, outD_nx, outL_rl, outX_rt, outX_rl, outX_nx, outX_er, mask_nil, mask_cons, mk0_f, mk0_o, mk0_od, mk0_ot, mk0_n, peek_nil, peek_cons, pk_f, pk_o, pk_od, pk_ot, pk_n, dOf_int, dOf_bl, dOf_str, dOf_non, opI0_int, opI_int, unI_int, asB_bl, asI_int, asL_lst, asT_tup, asW_web, eqS_int, eqS_str, ixL_lst, ixT_tup, ixQ_lst, ixQ_tup, lenD_lst, lenD_tup, listD_lst, listD_tup, catD_lst, rng1_int, rng2_int, sName_go, sTup_go, sCons_go, sNil_go, bTup_go, bCons_go, bNil_go, two_go, List.set_cons_zero, List.set_cons_succ, List.getElem?_cons_zero, List.getElem?_cons_succ, Option.join_some, atI_0, atI_1, atI_2, decide_eq_true_eq, wipeE, List.map_cons, List.map_nil, step_nx, step_ct, step_bk, step_rt, step_rl, step_er, vOf_int, vOf_str]
            by_cases h3 : l.length = 3
            · rw [if_pos (by omega), h3]
              rfl
            · rw [if_neg (by omega)]
              rw [if_neg h3]
          rw [List.map_id', arrows3 w x] at hbs
          subst hbs
          have hkA : ∀ k ∈ As.filter (touch x), AK n k := fun k hk => w.ka k (List.mem_filter.mp hk).1
          refine loop_run (fun i ρ => ∃ (R' : List HRow) (fr : List Int) (y7 y9 : Option Sl), ρ = [some (.f (.web n As Ms)), some (.f (.int r)), some (.f (.lst ((ptsL n).map fun p => .lst ((tiesAt As Ms p).map tieD)))), some (.od (seenE (ptsOf r R'))), some (.o (fr.map D.int)), some (.o (R'.map rowD)), some (.f (.int x)), y7, y8, y9] ∧ Hang n As r R' ∧ x ∈ ptsOf r R' ∧ (∀ z ∈ fr, z ∈ ptsOf r R') ∧ (∀ z ∈ ptsOf r R', z ∉ fr → z ≠ x → ∀ y, Adj As z y → y ∈ ptsOf r R') ∧ (∀ k ∈ (As.filter (touch x)).take i, endK x k ∈ ptsOf r R') ∧ m + R'.length + 1 = fr.length + n.toNat ∧ fr.length ≤ R'.length + 1) ⟨R, fs, _, _, rfl, hg, hx, fun z hz => hf z (List.mem_append_left _ hz), fun z hz hn ne y hy => hc z hz (fun q => (List.mem_append.mp q).elim hn fun q => ne (List.mem_singleton.mp q)) y hy, (fun k hk => nomatch hk), by rw [List.length_append, List.length_singleton] at hm; omega, by rw [List.length_append, List.length_singleton] at hlf; omega⟩ ?_ ?_
          · rintro i hi ρ ⟨R', fr, y7, y9, rfl, hg', hx', hf', hc', he', hm', hlf'⟩
            rw [List.length_map] at hi
            have hkm := List.getElem_mem hi
            have hkA' := (List.mem_filter.mp hkm).1
            have hkt := (List.mem_filter.mp hkm).2
            have htk : (As.filter (touch x)).take (i + 1) = (As.filter (touch x)).take i ++ [(As.filter (touch x))[i]] := take_snoc hi
            obtain ⟨c, s, t, ek, hcc, s0, s1, t0, t1⟩ := hkA _ hkm
            have hst : s = x ∨ t = x := by
              rw [ek] at hkt
              have : (decide (s = x) || decide (t = x)) = true := hkt
              rcases Bool.or_eq_true_iff.mp this with z | z
              · exact .inl (of_decide_eq_true z)
              · exact .inr (of_decide_eq_true z)
            have ee : endK x (As.filter (touch x))[i] = if s = x then t else s := by rw [ek]; rfl
            generalize hp : (if s = x then t else s) = p at ee
            have hpr : 0 ≤ p ∧ p < n := by rw [← hp]; split <;> omega
            simp only [List.getElem_map, ek, tieA', oe_go, hp, dnin_go, seen_val, Sl.data, run_bnd, run_ret, run_opt, run_req, run_all, run_choose, run_ite, then_nx, then_rt, then_rl, then_er, then_ct, then_bk, outD_rt, outD_rl, outD_nx, outL_rl, outX_rt, outX_rl, outX_nx, outX_er, mask_nil, mask_cons, mk0_f, mk0_o, mk0_od, mk0_ot, mk0_n, peek_nil, peek_cons, pk_f, pk_o, pk_od, pk_ot, pk_n, dOf_int, dOf_bl, dOf_str, dOf_non, opI0_int, opI_int, unI_int, asB_bl, asI_int, asL_lst, asT_tup, asW_web, eqS_int, eqS_str, ixL_lst, ixT_tup, ixQ_lst, ixQ_tup, lenD_lst, lenD_tup, listD_lst, listD_tup, catD_lst, rng1_int, rng2_int, sName_go, sTup_go, sCons_go, sNil_go, bTup_go, bCons_go, bNil_go, two_go, List.set_cons_zero, List.set_cons_succ, List.getElem?_cons_zero, List.getElem?_cons_succ, Option.join_some, atI_0, atI_1, atI_2, decide_eq_true_eq, wipeE, List.map_cons, List.map_nil, step_nx, step_ct, step_bk, step_rt, step_rl, step_er, vOf_int, vOf_str]
            by_cases hin : p ∈ ptsOf r R'
            · simp only [hin, decide_true, Bool.not_true, Bool.false_eq_true, if_false, run_bnd, run_ret, run_opt, run_req, run_all, run_choose, run_ite, then_nx, then_rt, then_rl, then_er, then_ct, then_bk, outD_rt, outD_rl, outD_nx, outL_rl, outX_rt, outX_rl, outX_nx, outX_er, mask_nil, mask_cons, mk0_f, mk0_o, mk0_od, mk0_ot, mk0_n, peek_nil, peek_cons, pk_f, pk_o, pk_od, pk_ot, pk_n, dOf_int, dOf_bl, dOf_str, dOf_non, opI0_int, opI_int, unI_int, asB_bl, asI_int, asL_lst, asT_tup, asW_web, eqS_int, eqS_str, ixL_lst, ixT_tup, ixQ_lst, ixQ_tup, lenD_lst, lenD_tup, listD_lst, listD_tup, catD_lst, rng1_int, rng2_int, sName_go, sTup_go, sCons_go, sNil_go, bTup_go, bCons_go, bNil_go, two_go, List.set_cons_zero, List.set_cons_succ, List.getElem?_cons_zero, List.getElem?_cons_succ, Option.join_some, atI_0, atI_1, atI_2, decide_eq_true_eq, wipeE, List.map_cons, List.map_nil, step_nx, step_ct, step_bk, step_rt, step_rl, step_er, vOf_int, vOf_str]
              refine ⟨R', fr, _, _, rfl, hg', hx', hf', hc', fun k hk => ?_, hm', hlf'⟩
              rw [htk] at hk
              rcases List.mem_append.mp hk with hk | hk
              · exact he' k hk
              · rw [List.mem_singleton.mp hk, ee]
                exact hin
            · have hless := pts_less hg' hin hpr
              have lf : fr.length ≤ 200 := by omega
              have lR : R'.length ≤ 100 := by omega
              simp only [hin, decide_false, Bool.not_false, if_true, own3, own_0, own_S, keyOf_int, optS, scD, run_bnd, run_ret, run_opt, run_req, run_all, run_choose, run_ite, then_nx, then_rt, then_rl, then_er, then_ct, then_bk, outD_rt, outD_rl, outD_nx, outL_rl, outX_rt, outX_rl, outX_nx, outX_er, mask_nil, mask_cons, mk0_f, mk0_o, mk0_od, mk0_ot, mk0_n, peek_nil, peek_cons, pk_f, pk_o, pk_od, pk_ot, pk_n, dOf_int, dOf_bl, dOf_str, dOf_non, opI0_int, opI_int, unI_int, asB_bl, asI_int, asL_lst, asT_tup, asW_web, eqS_int, eqS_str, ixL_lst, ixT_tup, ixQ_lst, ixQ_tup, lenD_lst, lenD_tup, listD_lst, listD_tup, catD_lst, rng1_int, rng2_int, sName_go, sTup_go, sCons_go, sNil_go, bTup_go, bCons_go, bNil_go, two_go, List.set_cons_zero, List.set_cons_succ, List.getElem?_cons_zero, List.getElem?_cons_succ, Option.join_some, atI_0, atI_1, atI_2, decide_eq_true_eq, wipeE, List.map_cons, List.map_nil, step_nx, step_ct, step_bk, step_rt, step_rl, step_er, vOf_int, vOf_str]
              have ls : (seenE (ptsOf r R')).length ≤ 200 := by
                unfold seenE ptsOf
                rw [List.length_map, List.length_cons, List.length_map]
                omega
              refine ⟨rfl, by omega, by rw [List.length_map]; omega, by rw [List.length_map]; omega, by show 3 ≤ 100000; decide, ?_⟩
              have hs : ∃ c : Str, (As.filter (touch x))[i] = [.inr c, .inl x, .inl p] ∨ (As.filter (touch x))[i] = [.inr c, .inl p, .inl x] := by
                refine ⟨⟨#[c]⟩, ?_⟩
                rw [ek, ← hp]
                by_cases z : s = x
                · rw [if_pos z, z]
                  exact .inl rfl
                · rw [if_neg z, hst.resolve_left z]
                  exact .inr rfl
              have hg2 := hg'.snoc (q := (p, x, (As.filter (touch x))[i])) hin hpr hx' hkA' hs
              refine ⟨R' ++ [(p, x, (As.filter (touch x))[i])], fr ++ [p], some (.f (.tup [.str ⟨#[c]⟩, .int s, .int t])), some (.f (.int p)), ?_, hg2, ?_, fun z hz => ?_, fun z hz hn ne y hy => ?_, fun k hk => ?_, ?_, ?_⟩
              · rw [seen_put hin, pts_snoc, List.map_append, List.map_append, ek]
                rfl
              · rw [pts_snoc]
                exact List.mem_append_left _ hx'
              · rw [pts_snoc]
                rcases List.mem_append.mp hz with hz | hz
                · exact List.mem_append_left _ (hf' z hz)
                · exact List.mem_append_right _ hz
              · rw [pts_snoc] at hz ⊢
                rcases List.mem_append.mp hz with hz | hz
                · exact List.mem_append_left _ (hc' z hz (fun q => hn (List.mem_append_left _ q)) ne y hy)
                · exact absurd (List.mem_append_right _ hz) hn
              · rw [htk] at hk
                rw [pts_snoc]
                rcases List.mem_append.mp hk with hk | hk
                · exact List.mem_append_left _ (he' k hk)
                · rw [List.mem_singleton.mp hk, ee]
                  exact List.mem_append_right _ (List.mem_singleton.mpr rfl)
              · rw [List.length_append, List.length_append, List.length_singleton, List.length_singleton]
                omega
              · rw [List.length_append, List.length_append, List.length_singleton, List.length_singleton]
                omega
          · rintro ρ ⟨R', fr, y7, y9, rfl, hg', hx', hf', hc', he', hm', hlf'⟩
            rw [List.length_map, List.take_length] at he'
            refine ⟨_, rfl, R', fr, _, _, _, _, rfl, hg', hf', fun z hz hn y hy => ?_, hm', hlf'⟩
            by_cases ne : z = x
            · subst ne
              obtain ⟨k, hk, hek⟩ := touch_adj w hy
              rw [← hek]
              exact he' k hk
            · exact hc' z hz hn ne y hy
    · exact hq.elim
end
end Dv
namespace Dv
open PySem PySem.Spec PyProof.Rows L2 RZ Sg Tm Wb
local macro_rules | `(tactic| walk_at "r2") => `(tactic| first | with_reducible exact r_I0 | with_reducible exact r_I | with_reducible exact r_eq | with_reducible exact r_ne | with_reducible exact r_isN | with_reducible exact r_notN | with_reducible exact r_ixL | with_reducible exact r_ixT | with_reducible exact r_ixQ | with_reducible exact r_eqD | with_reducible exact r_neD | with_reducible exact r_inD | with_reducible exact r_notInD | with_reducible exact r_isB | with_reducible exact r_notB)
local macro_rules | `(tactic| walk_at "r2l") => `(tactic| first | with_reducible exact r_cat)
local macro_rules | `(tactic| walk_at "rc") => `(tactic| first | with_reducible exact r_len | with_reducible exact r_all)
local macro_rules | `(tactic| walk_at "rcl") => `(tactic| first | with_reducible exact r_list)
local macro_rules | `(tactic| walk_at "eo") => `(tactic| first | with_reducible exact eo_none | (with_reducible apply eo_some; walk_at "ed"))
local macro_rules | `(tactic| walk_at "ea") => `(tactic| first | with_reducible exact ea_nil | (with_reducible apply ea_star; walk_at "ed"; walk_at "ea") | (with_reducible apply ea_cons; walk_at "ed"; walk_at "ea"))
local macro_rules | `(tactic| walk_at "et") => `(tactic| first
  | with_reducible exact et_yes
  | (with_reducible apply et_test; walk_at "ed") | (with_reducible apply et_B; walk_at "ed") | (with_reducible apply et_not; walk_at "et")
  | (with_reducible apply et_and; walk_at "et"; walk_at "et") | (with_reducible apply et_or; walk_at "et"; walk_at "et"))
local macro_rules | `(tactic| walk_at "eg") => `(tactic| first | with_reducible exact eg_name | (with_reducible apply eg_tup; walk_at "egs"))
local macro_rules | `(tactic| walk_at "egs") => `(tactic| first | with_reducible exact eg_nil | (with_reducible apply eg_cons; walk_at "eg"; walk_at "egs"))
local macro_rules | `(tactic| walk_at "es") => `(tactic| first | with_reducible exact es_name | (with_reducible apply es_tup; walk_at "ess"))
local macro_rules | `(tactic| walk_at "ess") => `(tactic| first | with_reducible exact es_nil | (with_reducible apply es_cons; walk_at "es"; walk_at "ess"))
local macro_rules | `(tactic| walk_at "ei") => `(tactic| first | (with_reducible apply ei_list; walk_at "ed") | (with_reducible apply ei_tup; walk_at "ed") | (with_reducible apply ei_rng1; walk_at "ea") | (with_reducible apply ei_rng2; walk_at "ea") | (with_reducible apply ei_str; walk_at "ed"))
local macro_rules | `(tactic| walk_at "el") => `(tactic| first
  | (with_reducible apply el_lst; walk_at "ea")
  | (focus (with_reducible apply el_lc; rotate_left; walk_at "ei"; walk_at "eg"; walk_at "et"; walk_at "ed"; decide))
  | (with_reducible apply el_op; walk_at "r2l"; walk_at "ed"; walk_at "ed")
  | (with_reducible apply el_cb; walk_at "rcl"; walk_at "ea")
  | (with_reducible apply el_sl; walk_at "ed"; walk_at "eo"; walk_at "eo")
  | (with_reducible apply el_call; walk_at "ea")
  | walk_at "el+"
  | (with_reducible apply el_meth; decide; walk_at "ed"; walk_at "ea"))
local macro_rules | `(tactic| walk_at "ed") => `(tactic| first
  | with_reducible exact ed_var | with_reducible exact ed_c
  | (with_reducible apply ed_op; walk_at "r2"; walk_at "ed"; walk_at "ed")
  | (with_reducible apply ed_call; walk_at "ea")
  | (with_reducible apply ed_callX; walk_at "ea")
  | (with_reducible apply ed_tup; walk_at "ea")
  | (with_reducible apply ed_if; walk_at "et"; walk_at "ed"; walk_at "ed")
  | (with_reducible apply ed_cb; walk_at "rc"; walk_at "ea")
  | (with_reducible apply ed_un r_U; walk_at "ed")
  | (with_reducible apply ed_chain; walk_at "r2"; walk_at "r2"; walk_at "ed"; walk_at "ed"; walk_at "ed")
  | (with_reducible apply ed_andV; walk_at "ed"; walk_at "ed") | (with_reducible apply ed_orV; walk_at "ed"; walk_at "ed")
  | (with_reducible apply ed_meth; decide; walk_at "ed"; walk_at "ea")
  | walk_at "ed+"
  | (with_reducible apply EvL.d; walk_at "el"))
local macro_rules | `(tactic| walk_at "svF") => `(tactic| first
  | (with_reducible apply sv_seq; walk_at "svF"; walk_at "svF")
  | (with_reducible apply sv_asg; walk_at "ed")
  | (with_reducible apply sv_if; walk_at "et"; walk_at "svF"; walk_at "svF")
  | (with_reducible apply sv_for; walk_at "ei"; walk_at "es"; walk_at "svF")
  | walk_at "sv")
local macro_rules | `(tactic| walk_at "sv") => `(tactic| first
  | with_reducible exact sv_next | with_reducible exact sv_break | with_reducible exact sv_cont | with_reducible exact sv_never | with_reducible exact sv_retN
  | (with_reducible apply sv_seq; walk_at "sv"; walk_at "sv")
  | (with_reducible apply sv_asgL; walk_at "el")
  | (with_reducible apply sv_asg; walk_at "ed")
  | (with_reducible apply sv_if; walk_at "et"; walk_at "sv"; walk_at "sv")
  | (with_reducible apply sv_for; walk_at "ei"; walk_at "es"; walk_at "sv")
  | (with_reducible apply sv_par; walk_at "ea")
  | (with_reducible apply sv_app; walk_at "ed")
  | (with_reducible apply sv_ret; walk_at "ed")
  | (with_reducible apply sv_asgT; walk_at "ed"; walk_at "es")
  | (with_reducible apply sv_drop; walk_at "ed"))
local macro_rules | `(tactic| walk_at "rc") => `(tactic| first | with_reducible exact r_len | with_reducible exact r_all | with_reducible exact r_max | with_reducible exact r_min)
local macro_rules | `(tactic| walk_at "rcl") => `(tactic| first | with_reducible exact r_list | with_reducible exact r_sort)
local macro_rules | `(tactic| walk_at "el+") => `(tactic| (with_reducible apply el_listRg; walk_at "ed"))
local macro_rules | `(tactic| walk_at "edm") => `(tactic| first | (with_reducible apply ed_index; walk_at "ed"; walk_at "ed") | (with_reducible apply ed_dget2; walk_at "ed"; walk_at "ed"; walk_at "ed") | with_reducible exact ed_disp2 | (with_reducible apply ed_chain; walk_at "r2"; walk_at "r2"; walk_at "ed"; walk_at "ed"; walk_at "ed"))
local macro_rules | `(tactic| walk_at "ed+") => `(tactic| walk_at "edm")
local macro_rules | `(tactic| walk_at "ex") => `(tactic| first | (with_reducible apply ex_callI; walk_at "ea") | (with_reducible apply ex_call; walk_at "ea") | (with_reducible apply ex_opL; walk_at "r2"; walk_at "ex"; walk_at "ed"))
local macro_rules | `(tactic| walk_at "svM") => `(tactic| first
  | (with_reducible apply sv_seq; walk_at "svM"; walk_at "svM")
  | (with_reducible apply sv_ins; walk_at "ed")
  | (with_reducible apply sv_asg; walk_at "ed")
  | (with_reducible apply sv_asgX; walk_at "ex")
  | (with_reducible apply sv_retX; walk_at "ex")
  | (with_reducible apply sv_if; walk_at "et"; walk_at "svM"; walk_at "svM")
  | (with_reducible apply sv_for; walk_at "ei"; walk_at "es"; walk_at "svM")
  | walk_at "sv")
local macro_rules | `(tactic| walk_at "rc") => `(tactic| first | with_reducible exact r_len | with_reducible exact r_lenK | with_reducible exact r_all | with_reducible exact r_max | with_reducible exact r_min | with_reducible exact r_max1 | with_reducible exact r_min1 | with_reducible exact r_int | with_reducible exact r_tup)
local macro_rules | `(tactic| walk_at "ei") => `(tactic| first | (with_reducible apply ei_list; walk_at "ed") | (with_reducible apply ei_tup; walk_at "ed") | (with_reducible apply ei_rng1; walk_at "ea") | (with_reducible apply ei_rng2; walk_at "ea") | (with_reducible apply ei_str; walk_at "ed") | (with_reducible apply ei_en; walk_at "ea"))
local macro_rules | `(tactic| walk_at "edk") => `(tactic| first | (with_reducible apply ed_mk2; walk_at "ea"; walk_at "ea") | (with_reducible apply ed_dget; walk_at "ed"; walk_at "ed") | (with_reducible apply ed_din; walk_at "ed"; walk_at "ed") | (with_reducible apply ed_dnin; walk_at "ed"; walk_at "ed") | walk_at "edm")
local macro_rules | `(tactic| walk_at "ed+") => `(tactic| walk_at "edk")
local macro_rules | `(tactic| walk_at "ek") => `(tactic| first | with_reducible exact ek_new | (focus (with_reducible apply ek_dc; rotate_left; walk_at "ei"; walk_at "eg"; walk_at "et"; walk_at "ed"; walk_at "ed"; decide)))
local macro_rules | `(tactic| walk_at "svN") => `(tactic| first
  | (with_reducible apply sv_seq; walk_at "svN"; walk_at "svN")
  | (with_reducible apply sv_ins; walk_at "ed")
  | (with_reducible apply sv_asgK; walk_at "ek")
  | (with_reducible apply sv_asg; walk_at "ed")
  | (with_reducible apply sv_asgX; walk_at "ex")
  | (with_reducible apply sv_dropX; walk_at "ex")
  | (with_reducible apply sv_retX; walk_at "ex")
  | (with_reducible apply sv_dput; walk_at "ed"; walk_at "ed")
  | (with_reducible apply sv_raise rfl; decide; walk_at "ed")
  | (with_reducible apply sv_if; walk_at "et"; walk_at "svN"; walk_at "svN")
  | (with_reducible apply sv_for; walk_at "ei"; walk_at "es"; walk_at "svN")
  | walk_at "sv")
local macro_rules | `(tactic| walk_at "svW") => `(tactic| first
  | (with_reducible apply sv_seq; walk_at "svW"; walk_at "svW")
  | (with_reducible apply sv_asg; walk_at "ed")
  | (with_reducible apply sv_if; walk_at "et"; walk_at "svW"; walk_at "svW")
  | (with_reducible apply sv_for; walk_at "ei"; walk_at "es"; walk_at "svW")
  | walk_at "sv")
local macro_rules | `(tactic| walk_at "svV") => `(tactic| first
  | (with_reducible apply sv_seq; walk_at "svV"; walk_at "svV")
  | (with_reducible apply sv_asgL; with_reducible apply el_lst; with_reducible exact ea_nil)
  | (with_reducible apply sv_asg; walk_at "ed")
  | (with_reducible apply sv_for; walk_at "ei"; walk_at "es"; walk_at "svV")
  | walk_at "sv")
theorem conn_step {l : List Ks} {c : Str} {s t x y : Int} : Conn (l ++ [[.inr c, .inl s, .inl t]]) x y ↔ Conn l x y ∨ (Conn l x s ∧ Conn l t y) ∨ (Conn l x t ∧ Conn l s y) := by
  have new : Adj (l ++ [[.inr c, .inl s, .inl t]]) s t := ⟨c, .inl (by simp)⟩
  have up : ∀ {x y}, Conn l x y → Conn (l ++ [[.inr c, .inl s, .inl t]]) x y := fun h => h.mono fun k hk => List.mem_append_left _ hk
  constructor
  · intro h
    induction h with
    | rf => exact .inl (.rf _)
    | @st y z _ a ih =>
      have ha : Adj l y z ∨ (y = s ∧ z = t) ∨ (y = t ∧ z = s) := by
        obtain ⟨c', a⟩ := a
        rcases a with a | a
        · rcases List.mem_append.mp a with a | a
          · exact .inl ⟨c', .inl a⟩
          · have := List.mem_singleton.mp a
            simp only [List.cons.injEq, Sum.inl.injEq] at this
            exact .inr (.inl ⟨this.2.1, this.2.2.1⟩)
        · rcases List.mem_append.mp a with a | a
          · exact .inl ⟨c', .inr a⟩
          · have := List.mem_singleton.mp a
            simp only [List.cons.injEq, Sum.inl.injEq] at this
            exact .inr (.inr ⟨this.2.2.1, this.2.1⟩)
      rcases ha with ha | ⟨rfl, rfl⟩ | ⟨rfl, rfl⟩
      · rcases ih with ih | ⟨i1, i2⟩ | ⟨i1, i2⟩
        · exact .inl (.st ih ha)
        · exact .inr (.inl ⟨i1, .st i2 ha⟩)
        · exact .inr (.inr ⟨i1, .st i2 ha⟩)
      · rcases ih with ih | ⟨i1, i2⟩ | ⟨i1, i2⟩
        · exact .inr (.inl ⟨ih, .rf _⟩)
        · exact .inr (.inl ⟨i1, .rf _⟩)
        · exact .inl i1
      · rcases ih with ih | ⟨i1, i2⟩ | ⟨i1, i2⟩
        · exact .inr (.inr ⟨ih, .rf _⟩)
        · exact .inl i1
        · exact .inr (.inr ⟨i1, .rf _⟩)
  · rintro (h | ⟨h1, h2⟩ | ⟨h1, h2⟩)
    · exact up h
    · exact (Conn.st (up h1) new).trans (up h2)
    · exact (Conn.st (up h1) new.symm).trans (up h2)
theorem lab_step (X Y S T : Int) : ((if X = T then S else X) = (if Y = T then S else Y)) ↔ X = Y ∨ (X = S ∧ T = Y) ∨ (X = T ∧ S = Y) := by
  by_cases h1 : X = T <;> by_cases h2 : Y = T
  · rw [if_pos h1, if_pos h2]; constructor <;> intro _ <;> first | exact .inl (by omega) | rfl
  · rw [if_pos h1, if_neg h2]; constructor <;> intro h <;> omega
  · rw [if_neg h1, if_pos h2]; constructor <;> intro h <;> omega
  · rw [if_neg h1, if_neg h2]; constructor <;> intro h <;> omega
theorem flt_all {l : List Int} {p : Int → Bool} : (l.filter p).length = l.length ↔ ∀ x ∈ l, p x = true := by
  induction l with
  | nil => simp
  | cons a l ih =>
    rw [List.filter_cons]
    have hl := List.length_filter_le p l
    by_cases h : p a = true
    · rw [if_pos h, List.length_cons, List.length_cons]
      constructor
      · intro e x hx
        rcases List.mem_cons.mp hx with rfl | hx
        · exact h
        · exact (ih.mp (by omega)) x hx
      · intro hh
        rw [ih.mpr fun x hx => hh x (List.mem_cons_of_mem _ hx)]
    · rw [if_neg h, List.length_cons]
      constructor
      · intro e; omega
      · intro hh; exact absurd (hh a (List.mem_cons_self ..)) h
theorem img_mem {l : List Int} {p : Int} (h0 : 0 ≤ p) (h : p < (l.length : Int)) : img l p ∈ l := by
  unfold img
  rw [List.getD_eq_getElem?_getD, List.getElem?_eq_getElem (by omega)]
  exact List.getElem_mem _
theorem mem_img {l : List Int} {x : Int} (h : x ∈ l) : ∃ p : Int, 0 ≤ p ∧ p < (l.length : Int) ∧ img l p = x := by
  obtain ⟨i, hi, rfl⟩ := List.getElem_of_mem h
  refine ⟨(i : Int), by omega, by omega, ?_⟩
  unfold img
  rw [Int.toNat_natCast, List.getD_eq_getElem?_getD, List.getElem?_eq_getElem hi]
  rfl
theorem img_map {l : List Int} {f : Int → Int} {p : Int} (h0 : 0 ≤ p) (h : p < (l.length : Int)) : img (l.map f) p = f (img l p) := by
  unfold img
  rw [List.getD_eq_getElem?_getD, List.getD_eq_getElem?_getD, List.getElem?_map, List.getElem?_eq_getElem (by omega)]
  rfl
theorem img_pts {n p : Int} (h0 : 0 ≤ p) (h : p < n) : img (ptsL n) p = p := by
  unfold img
  rw [List.getD_eq_getElem?_getD, List.getElem?_map, List.getElem?_range (by omega)]
  show ((p.toNat : Nat) : Int) = p
  omega
theorem pts_len (n : Int) : (ptsL n).length = n.toNat := by rw [List.length_map, List.length_range]
theorem mv_webT {n : Int} {A M : List Ks} {js : List Int} {u : List Ks × List Ks} (w : WebK n A M) (hn : n ≤ 81) (hl : (js.length : Int) = n) (hj : ∀ v ∈ js, 0 ≤ v ∧ v < n) (h : SrtK (A.map (mvK (img js))) u.1 ∧ SrtK (M.map (mvK (img js))) u.2) : WebK n u.1 u.2 ∧ u.1.length ≤ A.length ∧ u.2.length ≤ M.length := by
  have g := good_nu (g := (fun _ => true, img js)) w w.n0 hn fun i i0 i1 _ => img_in hj i0 (by omega)
  rw [nu_all, nu_all] at g
  have p1 := h.1.len
  have p2 := h.2.len
  rw [List.length_map] at p1 p2
  exact ⟨web_of g (by rw [List.length_map]; exact w.la) (by rw [List.length_map]; exact w.lm) h, p1, p2⟩
section
variable {P : Program} {w : World} {K : PySem.W.Frag} {mg : Str → Option Value} {base : Heap} {C : Addr} {T : List (Addr × Str)} {cls : Str → Addr}
abbrev sIsTree : Stmt := topS 19
def itM : List D → M D
  | [.web n As Ms] => M.bnd (M.req (WebK n As Ms ∧ n ≤ 81)) fun _ => M.bnd (M.all fun b : Bool => b = true ↔ TreeP n As) fun b => M.ret (.bl b)
  | _ => M.fail
theorem len_it {ds : List D} {Q : _ → Prop} (h : (itM ds).run Q) : ds.length = 1 := by
  unfold itM at h
  split at h
  · rfl
  · exact h.elim
abbrev N_it : List Str := ["web"]
theorem sc_it : FnScope N_it ["web"] (defScope sIsTree) := ⟨rfl, rfl, rfl, by decide +kernel, rfl, by decide +kernel, by decide +kernel⟩
theorem ok_it {f fH fP fA : Addr} {fd dH dP dA : FuncData} (F : Fun K "is_tree" "is_tree" sIsTree f fd) (b : Bq mg) (c : Cls K C) (mPt : Mf P w K mg base 1 C "points" (spD (mkS K C T cls) ptsM) fP dP) (mAr : Mf P w K mg base 1 C "arrows" (spL (mkS K C T cls) arrM) fA dA) (oH : Df P w K mg base 3 "hanging" ["web", "root"] (spL (mkS K C T cls) hgM) fH dH) : FnOk P w K mg base CX0 5 f fd ["web"] (spD (mkS K C T cls) itM) := by
  refine F.ok sc_it (fun vs H Q E h => ?_) (fun cdv A outer s H vs Q E hr h => ?_)
  · obtain ⟨B, G, ds, _, r, h⟩ := h
    rw [r.length]
    exact len_it h
  · have hu5 : (A.deeper (envOfC "is_tree" (defScope sIsTree) s.heap.objs.size f cdv)).units + 65 < cLine := by
      have := hr.un
      omega
    have hu : (A.deeper (envOfC "is_tree" (defScope sIsTree) s.heap.objs.size f cdv)).units + 64 < cLine := by omega
    have hu1 : (A.deeper (envOfC "is_tree" (defScope sIsTree) s.heap.objs.size f cdv)).units + 1 < cLine := by omega
    refine ⟨_, (pss_cons (ps_if (pt_cmpR op_ne (pe_callB (dv_len (K := K) rfl) (by rfl) b.len PySem.boot_len (pa_cons (pe_meth0 (pv 0) c mAr.mt mAr.ok (hr.mono (by decide)) mAr.bd .nil pass0) pa_nil)) (pe_op op_sub (pe_meth0 (pv 0) c mPt.mt mPt.ok (hr.mono (by decide)) mPt.bd .nil pass0) pe_int) (nomark _)) (pss_one (ps_ret pe_bl)) pss_nil)
      (pss_one (ps_ret (pe_cmpR op_eq (pe_callB (dv_len (K := K) rfl) (by rfl) b.len PySem.boot_len (pa_cons (pe_call oH.ok (hr.mono (by decide)) (by rfl) oH.gl oH.kp oH.bd .nil pass0 (pa_cons (pv 0) (pa_cons pe_int pa_nil))) pa_nil)) (pe_op op_sub (pe_meth0 (pv 0) c mPt.mt mPt.ok (hr.mono (by decide)) mPt.bd .nil pass0) pe_int) (nomark _))))), ?_⟩
    refine run_D (X := E) (S := mkS K C T cls) (N := N_it) (by walk_at "svW") ?_ h
    intro ds Q hq
    unfold itM at hq
    split at hq
    · rename_i n As Ms
      obtain ⟨⟨w, hn⟩, hq⟩ := hq
      have w0 := w.n0
      have e : startE N_it.length [.web n As Ms] = [some (.f (.web n As Ms))] := rfl
      rw [e]
      simp only [arr_go, pts_go, run_bnd, run_ret, run_opt, run_req, run_all, run_choose, run_ite, then_nx, then_rt, then_rl, then_er, then_ct, then_bk, outD_rt, outD_rl, outD_nx, outL_rl, outX_rt, outX_rl, outX_nx, outX_er, mask_nil, mask_cons, mk0_f, mk0_o, mk0_od, mk0_ot, mk0_n, peek_nil, peek_cons, pk_f, pk_o, pk_od, pk_ot, pk_n, dOf_int, dOf_bl, dOf_str, dOf_non, opI0_int, opI_int, unI_int, asB_bl, asI_int, asL_lst, asT_tup, asW_web, eqS_int, eqS_str, ixL_lst, ixT_tup, ixQ_lst, ixQ_tup, lenD_lst, lenD_tup, listD_lst, listD_tup, catD_lst, rng1_int, rng2_int, sName_go, sTup_go, sCons_go, sNil_go, bTup_go, bCons_go, bNil_go, two_go, List.set_cons_zero, List.set_cons_succ, List.getElem?_cons_zero, List.getElem?_cons_succ, Option.join_some, atI_0, atI_1, atI_2, decide_eq_true_eq, wipeE, List.map_cons, List.map_nil, step_nx, step_ct, step_bk, step_rt, step_rl, step_er, vOf_int, vOf_str, List.length_map]
      by_cases hl : (As.length : Int) = n - 1
      · simp only [hl, decide_true, Bool.not_true, Bool.false_eq_true, if_false, pts_go, run_bnd, run_ret, run_opt, run_req, run_all, run_choose, run_ite, then_nx, then_rt, then_rl, then_er, then_ct, then_bk, outD_rt, outD_rl, outD_nx, outL_rl, outX_rt, outX_rl, outX_nx, outX_er, mask_nil, mask_cons, mk0_f, mk0_o, mk0_od, mk0_ot, mk0_n, peek_nil, peek_cons, pk_f, pk_o, pk_od, pk_ot, pk_n, dOf_int, dOf_bl, dOf_str, dOf_non, opI0_int, opI_int, unI_int, asB_bl, asI_int, asL_lst, asT_tup, asW_web, eqS_int, eqS_str, ixL_lst, ixT_tup, ixQ_lst, ixQ_tup, lenD_lst, lenD_tup, listD_lst, listD_tup, catD_lst, rng1_int, rng2_int, sName_go, sTup_go, sCons_go, sNil_go, bTup_go, bCons_go, bNil_go, two_go, List.set_cons_zero, List.set_cons_succ, List.getElem?_cons_zero, List.getElem?_cons_succ, Option.join_some, atI_0, atI_1, atI_2, decide_eq_true_eq, wipeE, List.map_cons, List.map_nil, step_nx, step_ct, step_bk, step_rt, step_rl, step_er, vOf_int, vOf_str]
        refine ⟨⟨w, hn, by decide, by omega⟩, fun R hR => ?_⟩
        simp only [pts_go, run_bnd, run_ret, run_opt, run_req, run_all, run_choose, run_ite, then_nx, then_rt, then_rl, then_er, then_ct, then_bk, outD_rt, outD_rl, outD_nx, outL_rl, outX_rt, outX_rl, outX_nx, outX_er, mask_nil, mask_cons, mk0_f, mk0_o, mk0_od, mk0_ot, mk0_n, peek_nil, peek_cons, pk_f, pk_o, pk_od, pk_ot, pk_n, dOf_int, dOf_bl, dOf_str, dOf_non, opI0_int, opI_int, unI_int, asB_bl, asI_int, asL_lst, asT_tup, asW_web, eqS_int, eqS_str, ixL_lst, ixT_tup, ixQ_lst, ixQ_tup, lenD_lst, lenD_tup, listD_lst, listD_tup, catD_lst, rng1_int, rng2_int, sName_go, sTup_go, sCons_go, sNil_go, bTup_go, bCons_go, bNil_go, two_go, List.set_cons_zero, List.set_cons_succ, List.getElem?_cons_zero, List.getElem?_cons_succ, Option.join_some, atI_0, atI_1, atI_2, decide_eq_true_eq, wipeE, List.map_cons, List.map_nil, step_nx, step_ct, step_bk, step_rt, step_rl, step_er, vOf_int, vOf_str, List.length_map]
        refine hq _ (show decide _ = true ↔ _ from ?_)
        rw [decide_eq_true_eq, hang_all hR.1 hR.2]
        exact ⟨fun h => ⟨hl, h⟩, fun h => h.2⟩
      · simp only [hl, decide_false, Bool.not_false, if_true, run_bnd, run_ret, run_opt, run_req, run_all, run_choose, run_ite, then_nx, then_rt, then_rl, then_er, then_ct, then_bk, outD_rt, outD_rl, outD_nx, outL_rl, outX_rt, outX_rl, outX_nx, outX_er, mask_nil, mask_cons, mk0_f, mk0_o, mk0_od, mk0_ot, mk0_n, peek_nil, peek_cons, pk_f, pk_o, pk_od, pk_ot, pk_n, dOf_int, dOf_bl, dOf_str, dOf_non, opI0_int, opI_int, unI_int, asB_bl, asI_int, asL_lst, asT_tup, asW_web, eqS_int, eqS_str, ixL_lst, ixT_tup, ixQ_lst, ixQ_tup, lenD_lst, lenD_tup, listD_lst, listD_tup, catD_lst, rng1_int, rng2_int, sName_go, sTup_go, sCons_go, sNil_go, bTup_go, bCons_go, bNil_go, two_go, List.set_cons_zero, List.set_cons_succ, List.getElem?_cons_zero, List.getElem?_cons_succ, Option.join_some, atI_0, atI_1, atI_2, decide_eq_true_eq, wipeE, List.map_cons, List.map_nil, step_nx, step_ct, step_bk, step_rt, step_rl, step_er, vOf_int, vOf_str]
        exact hq false ⟨(fun z => nomatch z), fun z => absurd z.1 hl⟩
    · exact hq.elim
end
end Dv
namespace L2
open PySem PySem.Spec PyProof.Rows
section
variable {X : Cx}
/-- C() of an own error class, of nothing -/
theorem pmk_oex0 {CX : CXT} {x : Str} {C fI : Addr} {k : Nat} {fd : FuncData} {ps : List Str} {sp : Sp} {ds : List Value} {dvs : List V} {p pos : Pos} (W : OexC X.K C) (jC : PySem.W.findIn X.K (.ref C) "__init__" = some (some (.ref fI))) (jI : PySem.W.typeIn X.K (.ref fI) = some (.type "function"))
    (F1 : FnOk X.prog X.w X.K X.mg X.base CX k fI fd ps sp) (rm : Room (k + 1) X.A) (bd : Binds X.K fd ps ds) (vd : Vals dvs ds) (px : Passes CX X (fun _ _ _ => False)) (gx : Gl X x) (mx : X.mg x = some (.ref C)) (nd : (x == ("__debug__" : Str)) = false := by decide) : PMk X (.Call (.Name x p) [] [] pos) (tMkO C sp dvs tNil) := by
  intro pins s σ H Q I h
  obtain ⟨n1, n2, n3, n4, n5, n6, n7, n8, n9, m1, m2, m3, m4, m5, m6, cC, cb⟩ := W.cls
  refine wpAny_Call_Name_kw (ld_glob I gx mx (PySem.W.callWith_K0 I.kIn W.kC ?_) nd)
  obtain ⟨hz, h⟩ := h
  obtain ⟨hp, g, dr, tk, os⟩ := s
  have le : hp.objs.size ≤ hp.objs.size + 1 := Nat.le_succ _
  have h := h (hp.objs.size + 1) (I.hok.fresh le)
  have up : ∀ b o, hp.get? b = some o → ((hp.push (PySem.W.kdv_tup [])).push (PySem.HandSPX.excO C hp.objs.size)).get? b = some o := fun b o z => Heap.get?_push_of_some _ (Heap.get?_push_of_some _ z)
  have at1 : ((hp.push (PySem.W.kdv_tup [])).push (PySem.HandSPX.excO C hp.objs.size)).get? (hp.objs.size + 1) = some (PySem.HandSPX.excO C hp.objs.size) := by heap_get
  have J : Inv X pins σ (upd H (hp.objs.size + 1) (exo (hp.objs.size + 1) C none)) ⟨(hp.push (PySem.W.kdv_tup [])).push (PySem.HandSPX.excO C hp.objs.size), g, dr, tk, os⟩ := I.laid (t' := tk) (a := hp.objs.size + 1) (o := exo (hp.objs.size + 1) C none) (h' := (hp.push (PySem.W.kdv_tup [])).push (PySem.HandSPX.excO C hp.objs.size)) up le (exo_ok at1)
  have rr : Vals (V.ref (hp.objs.size + 1) :: ([] ++ dvs)) (Value.ref (hp.objs.size + 1) :: ([] ++ ds)) := .cons rfl vd
  have ln : (Value.ref (hp.objs.size + 1) :: [] ++ ds).length = ps.length := by
    have z := rr.length
    rw [F1.len _ _ _ _ h] at z
    exact z.symm
  show wpAny _ _ (call (.ref C) []) _ _ _
  refine wpAny_call (PySem.HandSPX.call_own F.excBase_ValueError (fun Y => PySem.HandSPX.refsVE_contains Y n5 cb) (I.kIn _ _ cC) (PySem.W.looks_findIn I.kIn jC) (fun u => PySem.W.bind_fn I.kIn u jI) (Nat.zero_le _) (codeAny_mono (F1.run _ X.stack _ _ ⟨Value.ref (hp.objs.size + 1) :: [], []⟩ (Value.ref (hp.objs.size + 1) :: ([] ++ ds)) _ _ (fun _ _ _ => False) (rm.make C [] []) (J.env0.make C [] []) (by simpa using bd _ (Value.ref (hp.objs.size + 1) :: []) J.kIn ln) rr h) fun r s2 z => ?_))
  cases r with
  | error er => exact px pins σ _ _ er s2 J z
  | ok fl =>
    cases fl with
    | ret u =>
      obtain ⟨v, K2, o2, b2, u2, k2, rv, ev, d, fs, ea, ed, hd1, q2⟩ := z
      subst ev
      obtain ⟨h2, g2, d2, t2, os'⟩ := s2
      exact ⟨rv, mk_end (raises_own W.exC W.tyC) I le up u2 k2 o2 b2 ea ed hd1 q2⟩
    | next => exact z.elim
    | brk => exact z.elim
    | cont => exact z.elim
end
end L2
namespace Wb
open PySem PySem.Spec PyProof.Rows L2 RZ Sg Tm
abbrev sENotTree : Stmt := inClass (topS 6) 0
def spE0 (C : Addr) (w : Str) : Sp := fun vs H Q _ => ∃ a, vs = [.ref a] ∧ H a = some (exo a C none) ∧ ∀ d, H d = none → d ≠ a → Q .non (upd (upd H d (exd d [("word", .str w)])) a (exo a C (some d)))
theorem mkE0 {C : Addr} {w : Str} {σ : L2.St} {H : Hp} {Q : XK} (q : ∀ d H', H d = none → H' d = some (.xd [("word", .str w)]) → Same H H' → Q (.ref C) (some d) H') : tMkO C (spE0 C w) [] tNil σ H Q := by
  refine ⟨by show 0 ≤ 1000; decide, fun a na => ⟨a, rfl, upd_same, fun d nd ne => ⟨rfl, d, [("word", .str w)], upd_same, ?_, ?_, ?_⟩⟩⟩
  · rw [upd_ne ne]
    exact upd_same
  · rw [upd_ne ne] at nd
    exact nd
  · rw [upd_ne ne] at nd
    refine q d _ nd upd_same fun c o hc => ?_
    rw [upd_ne (ne_of_none hc nd), del_ne (ne_of_none hc na), upd_ne (ne_of_none hc na), upd_ne (ne_of_none hc nd), upd_ne (ne_of_none hc na)]
    exact hc
section
variable {P : Program} {w : World} {K : PySem.W.Frag} {mg : Str → Option Value} {base : Heap}
structure EDf0 (P : Program) (w : World) (K : PySem.W.Frag) (mg : Str → Option Value) (base : Heap) (x : Str) (C fI : Addr) (fd : FuncData) : Prop where
  ok : FnOk P w K mg base CX0 1 fI fd ["self"] (spE0 C x)
  er : ErrC K C fI "word"
  gl : mg x = some (.ref C)
  bd : Binds K fd ["self"] []
theorem scENT : FnScope ["self"] ["self"] (defScope sENotTree) := ⟨rfl, rfl, rfl, by decide +kernel, rfl, by decide +kernel, by decide +kernel⟩
theorem ok_eNotTree {f C : Addr} {fd : FuncData} (F : Fun K "__init__" "NotTree.__init__" sENotTree f fd) (T : ErrC K C f "word") : FnOk P w K mg base CX0 1 f fd ["self"] (spE0 C "NotTree") := by
  refine F.ok scENT (fun vs H Q E h => ?_) (fun cdv A outer s H vs Q E hr h => ?_)
  · obtain ⟨a, rfl, _⟩ := h
    rfl
  · obtain ⟨a, rfl, ha, K1⟩ := h
    exact ⟨_, pss_one (ps_ost (pv 0) pe_str), _, rfl, a, C, rfl, T.oe, T.nw, .inl ⟨ha, fun d nd ne => K1 d nd ne⟩⟩
end
end Wb
namespace Dv
open PySem PySem.Spec PyProof.Rows L2 RZ Sg Tm Wb
local macro_rules | `(tactic| walk_at "r2") => `(tactic| first | with_reducible exact r_I0 | with_reducible exact r_I | with_reducible exact r_eq | with_reducible exact r_ne | with_reducible exact r_isN | with_reducible exact r_notN | with_reducible exact r_ixL | with_reducible exact r_ixT | with_reducible exact r_ixQ | with_reducible exact r_eqD | with_reducible exact r_neD | with_reducible exact r_inD | with_reducible exact r_notInD | with_reducible exact r_isB | with_reducible exact r_notB)
local macro_rules | `(tactic| walk_at "r2l") => `(tactic| first | with_reducible exact r_cat)
local macro_rules | `(tactic| walk_at "rc") => `(tactic| first | with_reducible exact r_len | with_reducible exact r_all)
local macro_rules | `(tactic| walk_at "rcl") => `(tactic| first | with_reducible exact r_list)
local macro_rules | `(tactic| walk_at "eo") => `(tactic| first | with_reducible exact eo_none | (with_reducible apply eo_some; walk_at "ed"))
local macro_rules | `(tactic| walk_at "ea") => `(tactic| first | with_reducible exact ea_nil | (with_reducible apply ea_star; walk_at "ed"; walk_at "ea") | (with_reducible apply ea_cons; walk_at "ed"; walk_at "ea"))
local macro_rules | `(tactic| walk_at "et") => `(tactic| first
  | with_reducible exact et_yes
  | (with_reducible apply et_test; walk_at "ed") | (with_reducible apply et_B; walk_at "ed") | (with_reducible apply et_not; walk_at "et")
  | (with_reducible apply et_and; walk_at "et"; walk_at "et") | (with_reducible apply et_or; walk_at "et"; walk_at "et"))
local macro_rules | `(tactic| walk_at "eg") => `(tactic| first | with_reducible exact eg_name | (with_reducible apply eg_tup; walk_at "egs"))
local macro_rules | `(tactic| walk_at "egs") => `(tactic| first | with_reducible exact eg_nil | (with_reducible apply eg_cons; walk_at "eg"; walk_at "egs"))
local macro_rules | `(tactic| walk_at "es") => `(tactic| first | with_reducible exact es_name | (with_reducible apply es_tup; walk_at "ess"))
local macro_rules | `(tactic| walk_at "ess") => `(tactic| first | with_reducible exact es_nil | (with_reducible apply es_cons; walk_at "es"; walk_at "ess"))
local macro_rules | `(tactic| walk_at "ei") => `(tactic| first | (with_reducible apply ei_list; walk_at "ed") | (with_reducible apply ei_tup; walk_at "ed") | (with_reducible apply ei_rng1; walk_at "ea") | (with_reducible apply ei_rng2; walk_at "ea") | (with_reducible apply ei_str; walk_at "ed"))
local macro_rules | `(tactic| walk_at "el") => `(tactic| first
  | (with_reducible apply el_lst; walk_at "ea")
  | (focus (with_reducible apply el_lc; rotate_left; walk_at "ei"; walk_at "eg"; walk_at "et"; walk_at "ed"; decide))
  | (with_reducible apply el_op; walk_at "r2l"; walk_at "ed"; walk_at "ed")
  | (with_reducible apply el_cb; walk_at "rcl"; walk_at "ea")
  | (with_reducible apply el_sl; walk_at "ed"; walk_at "eo"; walk_at "eo")
  | (with_reducible apply el_call; walk_at "ea")
  | walk_at "el+"
  | (with_reducible apply el_meth; decide; walk_at "ed"; walk_at "ea"))
local macro_rules | `(tactic| walk_at "ed") => `(tactic| first
  | with_reducible exact ed_var | with_reducible exact ed_c
  | (with_reducible apply ed_op; walk_at "r2"; walk_at "ed"; walk_at "ed")
  | (with_reducible apply ed_call; walk_at "ea")
  | (with_reducible apply ed_callX; walk_at "ea")
  | (with_reducible apply ed_tup; walk_at "ea")
  | (with_reducible apply ed_if; walk_at "et"; walk_at "ed"; walk_at "ed")
  | (with_reducible apply ed_cb; walk_at "rc"; walk_at "ea")
  | (with_reducible apply ed_un r_U; walk_at "ed")
  | (with_reducible apply ed_chain; walk_at "r2"; walk_at "r2"; walk_at "ed"; walk_at "ed"; walk_at "ed")
  | (with_reducible apply ed_andV; walk_at "ed"; walk_at "ed") | (with_reducible apply ed_orV; walk_at "ed"; walk_at "ed")
  | (with_reducible apply ed_meth; decide; walk_at "ed"; walk_at "ea")
  | walk_at "ed+"
  | (with_reducible apply EvL.d; walk_at "el"))
local macro_rules | `(tactic| walk_at "svF") => `(tactic| first
  | (with_reducible apply sv_seq; walk_at "svF"; walk_at "svF")
  | (with_reducible apply sv_asg; walk_at "ed")
  | (with_reducible apply sv_if; walk_at "et"; walk_at "svF"; walk_at "svF")
  | (with_reducible apply sv_for; walk_at "ei"; walk_at "es"; walk_at "svF")
  | walk_at "sv")
local macro_rules | `(tactic| walk_at "sv") => `(tactic| first
  | with_reducible exact sv_next | with_reducible exact sv_break | with_reducible exact sv_cont | with_reducible exact sv_never | with_reducible exact sv_retN
  | (with_reducible apply sv_seq; walk_at "sv"; walk_at "sv")
  | (with_reducible apply sv_asgL; walk_at "el")
  | (with_reducible apply sv_asg; walk_at "ed")
  | (with_reducible apply sv_if; walk_at "et"; walk_at "sv"; walk_at "sv")
  | (with_reducible apply sv_for; walk_at "ei"; walk_at "es"; walk_at "sv")
  | (with_reducible apply sv_par; walk_at "ea")
  | (with_reducible apply sv_app; walk_at "ed")
  | (with_reducible apply sv_ret; walk_at "ed")
  | (with_reducible apply sv_asgT; walk_at "ed"; walk_at "es")
  | (with_reducible apply sv_drop; walk_at "ed"))
local macro_rules | `(tactic| walk_at "rc") => `(tactic| first | with_reducible exact r_len | with_reducible exact r_all | with_reducible exact r_max | with_reducible exact r_min)
local macro_rules | `(tactic| walk_at "rcl") => `(tactic| first | with_reducible exact r_list | with_reducible exact r_sort)
local macro_rules | `(tactic| walk_at "el+") => `(tactic| (with_reducible apply el_listRg; walk_at "ed"))
local macro_rules | `(tactic| walk_at "edm") => `(tactic| first | (with_reducible apply ed_index; walk_at "ed"; walk_at "ed") | (with_reducible apply ed_dget2; walk_at "ed"; walk_at "ed"; walk_at "ed") | with_reducible exact ed_disp2 | (with_reducible apply ed_chain; walk_at "r2"; walk_at "r2"; walk_at "ed"; walk_at "ed"; walk_at "ed"))
local macro_rules | `(tactic| walk_at "ed+") => `(tactic| walk_at "edm")
local macro_rules | `(tactic| walk_at "ex") => `(tactic| first | (with_reducible apply ex_callI; walk_at "ea") | (with_reducible apply ex_call; walk_at "ea") | (with_reducible apply ex_opL; walk_at "r2"; walk_at "ex"; walk_at "ed"))
local macro_rules | `(tactic| walk_at "svM") => `(tactic| first
  | (with_reducible apply sv_seq; walk_at "svM"; walk_at "svM")
  | (with_reducible apply sv_ins; walk_at "ed")
  | (with_reducible apply sv_asg; walk_at "ed")
  | (with_reducible apply sv_asgX; walk_at "ex")
  | (with_reducible apply sv_retX; walk_at "ex")
  | (with_reducible apply sv_if; walk_at "et"; walk_at "svM"; walk_at "svM")
  | (with_reducible apply sv_for; walk_at "ei"; walk_at "es"; walk_at "svM")
  | walk_at "sv")
local macro_rules | `(tactic| walk_at "rc") => `(tactic| first | with_reducible exact r_len | with_reducible exact r_lenK | with_reducible exact r_all | with_reducible exact r_max | with_reducible exact r_min | with_reducible exact r_max1 | with_reducible exact r_min1 | with_reducible exact r_int | with_reducible exact r_tup)
local macro_rules | `(tactic| walk_at "ei") => `(tactic| first | (with_reducible apply ei_list; walk_at "ed") | (with_reducible apply ei_tup; walk_at "ed") | (with_reducible apply ei_rng1; walk_at "ea") | (with_reducible apply ei_rng2; walk_at "ea") | (with_reducible apply ei_str; walk_at "ed") | (with_reducible apply ei_en; walk_at "ea"))
local macro_rules | `(tactic| walk_at "edk") => `(tactic| first | (with_reducible apply ed_mk2; walk_at "ea"; walk_at "ea") | (with_reducible apply ed_dget; walk_at "ed"; walk_at "ed") | (with_reducible apply ed_din; walk_at "ed"; walk_at "ed") | (with_reducible apply ed_dnin; walk_at "ed"; walk_at "ed") | walk_at "edm")
local macro_rules | `(tactic| walk_at "ed+") => `(tactic| walk_at "edk")
local macro_rules | `(tactic| walk_at "ek") => `(tactic| first | with_reducible exact ek_new | (focus (with_reducible apply ek_dc; rotate_left; walk_at "ei"; walk_at "eg"; walk_at "et"; walk_at "ed"; walk_at "ed"; decide)))
local macro_rules | `(tactic| walk_at "svN") => `(tactic| first
  | (with_reducible apply sv_seq; walk_at "svN"; walk_at "svN")
  | (with_reducible apply sv_ins; walk_at "ed")
  | (with_reducible apply sv_asgK; walk_at "ek")
  | (with_reducible apply sv_asg; walk_at "ed")
  | (with_reducible apply sv_asgX; walk_at "ex")
  | (with_reducible apply sv_dropX; walk_at "ex")
  | (with_reducible apply sv_retX; walk_at "ex")
  | (with_reducible apply sv_dput; walk_at "ed"; walk_at "ed")
  | (with_reducible apply sv_raise rfl; decide; walk_at "ed")
  | (with_reducible apply sv_if; walk_at "et"; walk_at "svN"; walk_at "svN")
  | (with_reducible apply sv_for; walk_at "ei"; walk_at "es"; walk_at "svN")
  | walk_at "sv")
section
variable {P : Program} {w : World} {K : PySem.W.Frag} {mg : Str → Option Value} {base : Heap} {C : Addr} {T : List (Addr × Str)} {cls : Str → Addr}
theorem sv_raise0 {X : XK} {c : Addr} {w : Str} (hc : cls w = c) : SvD (mkS K C T cls) X (fun _ σ H => tMkO c (spE0 c w) [] tNil σ H fun k d H' => X k d H') (fun _ => M.ret (.er ⟨w, "word", .non⟩)) := fun B H0 G0 σ H ρ E ⟨G, A, r⟩ q => by
  subst hc
  refine mkE0 fun dd H' nd hdd sm => ?_
  obtain ⟨k2, c2⟩ := old_ok r.ok (fun a o _ _ e => sm a o e) (fun a e => FrA.sub (show Dv.Sub H H' from sm) e) (fun b q e => (r.ok.bx b q e).sub sm) (tabs_sub sm r.ok.tb)
  exact (show RsE B H0 G0 X ⟨w, "word", .non⟩ from q) dd H' G k2 (r.ch.trans c2) (r.ch.fr _ (FrA.of nd)) (by rw [xdF_w]; exact hdd)
local macro_rules | `(tactic| walk_at "svW0") => `(tactic| first
  | (with_reducible apply sv_if; walk_at "et"; walk_at "svW0"; walk_at "svW0")
  | with_reducible exact sv_raise0 rfl
  | walk_at "sv")
abbrev sRNT : Stmt := topS 20
def rntM : List D → M Rx
  | [.web n As Ms] => M.bnd (M.req (WebK n As Ms ∧ n ≤ 81)) fun _ => M.bnd (M.all fun b : Bool => b = true ↔ TreeP n As) fun b => if b = true then M.ret (.ok .non) else M.ret (.er ⟨"NotTree", "word", .non⟩)
  | _ => M.fail
theorem len_rnt {ds : List D} {Q : _ → Prop} (h : (rntM ds).run Q) : ds.length = 1 := by
  unfold rntM at h
  split at h
  · rfl
  · exact h.elim
abbrev N_rnt : List Str := ["web"]
theorem sc_rnt : FnScope N_rnt ["web"] (defScope sRNT) := ⟨rfl, rfl, rfl, by decide +kernel, rfl, by decide +kernel, by decide +kernel⟩
theorem ok_rnt {f fI fE : Addr} {fd dI dE : FuncData} (F : Fun K "refuse_no_tree" "refuse_no_tree" sRNT f fd) (oI : Df P w K mg base 5 "is_tree" ["web"] (spD (mkS K C T cls) itM) fI dI) (e : EDf0 P w K mg base "NotTree" (cls "NotTree") fE dE) : FnOk P w K mg base (L2.CX P w) 7 f fd ["web"] (spX (mkS K C T cls) rntM) := by
  refine F.okX sc_rnt (fun vs H Q E h => ?_) (fun cdv A outer s H vs Q E hr h => ?_)
  · obtain ⟨B, G, ds, _, r, h⟩ := h
    rw [r.length]
    exact len_rnt h
  · have hu5 : (A.deeper (envOfC "refuse_no_tree" (defScope sRNT) s.heap.objs.size f cdv)).units + 65 < cLine := by
      have := hr.un
      omega
    have hu : (A.deeper (envOfC "refuse_no_tree" (defScope sRNT) s.heap.objs.size f cdv)).units + 64 < cLine := by omega
    have hu1 : (A.deeper (envOfC "refuse_no_tree" (defScope sRNT) s.heap.objs.size f cdv)).units + 1 < cLine := by omega
    refine ⟨_, (pss_one (ps_if (pt_not (pt_val (pe_call oI.ok (hr.mono (by decide)) (by rfl) oI.gl oI.kp oI.bd .nil pass0 (pa_cons (pv 0) pa_nil)))) (pss_one (ps_raise rfl (takes_of rfl rfl rfl rfl) (pmk_oex0 e.er.oe e.er.iC e.er.tI e.ok (hr.mono (by decide)) e.bd .nil pass0 (by rfl) e.gl))) pss_nil)), ?_⟩
    refine run_X (X := E) (S := mkS K C T cls) (N := N_rnt) (by walk_at "svW0") ?_ h
    intro ds Q hq
    unfold rntM at hq
    split at hq
    · rename_i n As Ms
      obtain ⟨⟨w, hn⟩, hq⟩ := hq
      have e : startE N_rnt.length [.web n As Ms] = [some (.f (.web n As Ms))] := rfl
      rw [e]
      simp only [run_bnd, run_ret, run_opt, run_req, run_all, run_choose, run_ite, then_nx, then_rt, then_rl, then_er, then_ct, then_bk, outD_rt, outD_rl, outD_nx, outL_rl, outX_rt, outX_rl, outX_nx, outX_er, mask_nil, mask_cons, mk0_f, mk0_o, mk0_od, mk0_ot, mk0_n, peek_nil, peek_cons, pk_f, pk_o, pk_od, pk_ot, pk_n, dOf_int, dOf_bl, dOf_str, dOf_non, opI0_int, opI_int, unI_int, asB_bl, asI_int, asL_lst, asT_tup, asW_web, eqS_int, eqS_str, ixL_lst, ixT_tup, ixQ_lst, ixQ_tup, lenD_lst, lenD_tup, listD_lst, listD_tup, catD_lst, rng1_int, rng2_int, sName_go, sTup_go, sCons_go, sNil_go, bTup_go, bCons_go, bNil_go, two_go, List.set_cons_zero, List.set_cons_succ, List.getElem?_cons_zero, List.getElem?_cons_succ, Option.join_some, atI_0, atI_1, atI_2, decide_eq_true_eq, wipeE, List.map_cons, List.map_nil, step_nx, step_ct, step_bk, step_rt, step_rl, step_er, vOf_int, vOf_str]
      refine ⟨⟨w, hn⟩, fun b hb => ?_⟩
      have hq := hq b hb
      cases b with
      | true =>
        simp only [Bool.not_true, Bool.false_eq_true, if_false, if_true, run_bnd, run_ret, run_opt, run_req, run_all, run_choose, run_ite, then_nx, then_rt, then_rl, then_er, then_ct, then_bk, outD_rt, outD_rl, outD_nx, outL_rl, outX_rt, outX_rl, outX_nx, outX_er, mask_nil, mask_cons, mk0_f, mk0_o, mk0_od, mk0_ot, mk0_n, peek_nil, peek_cons, pk_f, pk_o, pk_od, pk_ot, pk_n, dOf_int, dOf_bl, dOf_str, dOf_non, opI0_int, opI_int, unI_int, asB_bl, asI_int, asL_lst, asT_tup, asW_web, eqS_int, eqS_str, ixL_lst, ixT_tup, ixQ_lst, ixQ_tup, lenD_lst, lenD_tup, listD_lst, listD_tup, catD_lst, rng1_int, rng2_int, sName_go, sTup_go, sCons_go, sNil_go, bTup_go, bCons_go, bNil_go, two_go, List.set_cons_zero, List.set_cons_succ, List.getElem?_cons_zero, List.getElem?_cons_succ, Option.join_some, atI_0, atI_1, atI_2, decide_eq_true_eq, wipeE, List.map_cons, List.map_nil, step_nx, step_ct, step_bk, step_rt, step_rl, step_er, vOf_int, vOf_str] at hq ⊢
        exact hq
      | false =>
        simp only [Bool.not_false, Bool.false_eq_true, if_false, if_true, run_bnd, run_ret, run_opt, run_req, run_all, run_choose, run_ite, then_nx, then_rt, then_rl, then_er, then_ct, then_bk, outD_rt, outD_rl, outD_nx, outL_rl, outX_rt, outX_rl, outX_nx, outX_er, mask_nil, mask_cons, mk0_f, mk0_o, mk0_od, mk0_ot, mk0_n, peek_nil, peek_cons, pk_f, pk_o, pk_od, pk_ot, pk_n, dOf_int, dOf_bl, dOf_str, dOf_non, opI0_int, opI_int, unI_int, asB_bl, asI_int, asL_lst, asT_tup, asW_web, eqS_int, eqS_str, ixL_lst, ixT_tup, ixQ_lst, ixQ_tup, lenD_lst, lenD_tup, listD_lst, listD_tup, catD_lst, rng1_int, rng2_int, sName_go, sTup_go, sCons_go, sNil_go, bTup_go, bCons_go, bNil_go, two_go, List.set_cons_zero, List.set_cons_succ, List.getElem?_cons_zero, List.getElem?_cons_succ, Option.join_some, atI_0, atI_1, atI_2, decide_eq_true_eq, wipeE, List.map_cons, List.map_nil, step_nx, step_ct, step_bk, step_rt, step_rl, step_er, vOf_int, vOf_str] at hq ⊢
        exact hq
    · exact hq.elim
end
end Dv
namespace Dv
open PySem PySem.Spec PyProof.Rows L2 Sg
variable {S : Base} {B : Bo S} {X : XK}
/-! ### texts: many times over, one behind another, parts, split, their signs -/
def timesS (z : Str) (k : Int) : Str := ⟨(List.replicate k.toNat z.cps).foldl (· ++ ·) #[]⟩
theorem rep_size (a : Array Nat) : ∀ (n : Nat) (acc : Array Nat), ((List.replicate n a).foldl (· ++ ·) acc).size = acc.size + n * a.size
  | 0, acc => by simp
  | n + 1, acc => by
    rw [List.replicate_succ, List.foldl_cons, rep_size a n, Array.size_append, Nat.succ_mul]
    omega
def rMulS : R2 := fun x y H Q => ∃ z k, x = .str z ∧ y = .int k ∧ 2 ≤ k ∧ k ≤ 1000 ∧ 1 ≤ z.length ∧ z.length ≤ 1000 ∧ Q (.str (timesS z k)) H
theorem op_mulS {Y : Cx} : OpR Y (binaryOp .Mult) rMulS := by
  intro pins s σ H x y v u Q I rx ry h
  obtain ⟨z, k, rfl, rfl, k1, k2, z1, z2, q⟩ := h
  obtain ⟨t, rfl⟩ := rx
  obtain ⟨t', rfl⟩ := ry
  have h1 : ¬ k < 1 := by omega
  have h2 : (k == 1 || z.length == 0) = false := by
    rw [Bool.or_eq_false_iff]
    exact ⟨by rw [beq_eq_false_iff_ne]; omega, by rw [beq_eq_false_iff_ne]; omega⟩
  have hz : z.length * k.toNat ≤ 1000 * 1000 := Nat.mul_le_mul z2 (by omega)
  refine PySem.P.mul_str ?_ (fun _ _ => ?_) (fun _ _ => ?_) ?_
  · rw [decide_eq_false (by omega), decide_eq_false (by omega)]
    rfl
  · have : (1000 : Int) ≤ (2 ^ 63 - 1) / k := by
      rw [Int.le_ediv_iff_mul_le (by omega)]
      omega
    omega
  · show decide (z.length * k.toNat > sizeLine) = false
    rw [sizeLine_eq]
    exact decide_eq_false (by omega)
  · rw [if_neg h1, if_neg (by rw [h2]; exact Bool.false_ne_true)]
    refine ⟨?_, .str (timesS z k), H, I.tok _, ⟨_, rfl⟩, q⟩
    show ((List.replicate k.toNat z.cps).foldl (· ++ ·) #[]).size ≤ sizeLine
    rw [rep_size, sizeLine_eq]
    have e : z.cps.size = z.length := rfl
    rw [e, Array.size_empty, Nat.mul_comm]
    omega
def mulS : D → D → M D
  | .str z, .int k => M.bnd (M.req (2 ≤ k ∧ k ≤ 1000 ∧ 1 ≤ z.length ∧ z.length ≤ 1000)) fun _ => M.ret (.str (timesS z k))
  | _, _ => M.fail
theorem mulS_go (z : Str) (k : Int) : mulS (.str z) (.int k) = M.bnd (M.req (2 ≤ k ∧ k ≤ 1000 ∧ 1 ≤ z.length ∧ z.length ≤ 1000)) fun _ => M.ret (.str (timesS z k)) := rfl
theorem r_mulS : R2D S rMulS mulS := fun B H G x y d e Q k rx ry h => by
  unfold mulS at h
  split at h
  · obtain ⟨⟨h1, h2, h3, h4⟩, h⟩ := h
    cases rx
    cases ry
    exact ⟨_, _, rfl, rfl, h1, h2, h3, h4, Rs1.now k h (.str _)⟩
  · exact h.elim
def rAddS : R2 := fun x y H Q => ∃ i j, x = .str i ∧ y = .str j ∧ i.length + j.length ≤ sizeLine ∧ Q (.str (i ++ j)) H
theorem op_addS {Y : Cx} : OpR Y (binaryOp .Add) rAddS := op_add_str
def addS : D → D → M D
  | .str z, .str y => M.bnd (M.req (z.length + y.length ≤ 100000)) fun _ => M.ret (.str (z ++ y))
  | _, _ => M.fail
theorem addS_go (z y : Str) : addS (.str z) (.str y) = M.bnd (M.req (z.length + y.length ≤ 100000)) fun _ => M.ret (.str (z ++ y)) := rfl
theorem r_addS : R2D S rAddS addS := fun B H G x y d e Q k rx ry h => by
  unfold addS at h
  split at h
  · cases rx
    cases ry
    exact ⟨_, _, rfl, rfl, small h.1, Rs1.now k h.2 (.str _)⟩
  · exact h.elim
def asS : D → M Str
  | .str z => M.ret z
  | _ => M.fail
theorem asS_str (z : Str) : asS (.str z) = M.ret z := rfl
theorem ed_slS {te : TE} {tl th : TO} {me : Env → M D} {ml mh : Env → M (Option Int)} (h : EvD S te me) (h1 : EvO S tl ml) (h2 : EvO S th mh) : EvD S (tSl rSlS te tl th) (fun ρ => M.bnd (me ρ) fun d => M.bnd (ml ρ) fun lo => M.bnd (mh ρ) fun hi => M.bnd (asS d) fun z => M.bnd (M.req (z.length ≤ 100000)) fun _ => M.ret (.str (cutS z lo hi))) := fun B σ H G ρ Q k er q =>
  h B σ H G ρ _ k er ((me ρ).mono (fun d hd v H1 G1 k1 c1 r1 => h1 B σ H1 G1 ρ _ k1 (er.mono c1.ext) ((ml ρ).mono (fun lo hlo H2 G2 k2 c2 => h2 B σ H2 G2 ρ _ k2 (er.mono (c1.trans c2).ext) ((mh ρ).mono (fun hi hhi H3 G3 k3 c3 => by
    cases r1 <;> first
      | exact hhi.elim
      | exact ⟨_, rfl, small hhi.1, (show Rs1 S B H G Q (.str _) from hhi.2) _ H3 G3 k3 ((c1.trans c2).trans c3) (.str _)⟩) hlo)) hd)) q)
theorem dv_listS {Y : Cx} (hc : Y.calm = true) : CallR Y (.type "list") rListS := cr_listS hc
def signsD (z : Str) : List D := z.cps.toList.map fun c => D.str ⟨#[c]⟩
theorem rp_signs {G : Hp} : ∀ l : List Nat, RpA S B G (l.map fun c => V.str ⟨#[c]⟩) (l.map fun c => D.str ⟨#[c]⟩)
  | [] => .nil
  | _ :: l => .cons (.str _) (rp_signs l)
def listS : List D → M (List D)
  | [.str z] => M.bnd (M.req (z.length ≤ 1000)) fun _ => M.ret (signsD z)
  | _ => M.fail
theorem listS_go (z : Str) : listS [.str z] = M.bnd (M.req (z.length ≤ 1000)) fun _ => M.ret (signsD z) := rfl
theorem r_listS : RCL S rListS listS := fun B H G vs ds Q k r h => by
  unfold listS at h
  split at h
  · cases r with
    | cons r1 r2 =>
      cases r2
      cases r1
      exact ⟨_, rfl, h.1, fun p hp => Rs2.lay k h.2 (rp_signs _) hp⟩
  · exact h.elim
def splitM : D → D → M (List D)
  | .str z, .str y => M.bnd (M.req ((y.length == 0) = false ∧ z.length ≤ 10000)) fun _ => M.ret ((Txt.split z y).map D.str)
  | _, _ => M.fail
theorem splitM_go (z y : Str) : splitM (.str z) (.str y) = M.bnd (M.req ((y.length == 0) = false ∧ z.length ≤ 10000)) fun _ => M.ret ((Txt.split z y).map D.str) := rfl
theorem rp_strs {G : Hp} : ∀ l : List Str, RpA S B G (l.map V.str) (l.map D.str)
  | [] => .nil
  | _ :: l => .cons (.str _) (rp_strs l)
theorem el_split {to te : TE} {mo me : Env → M D} (h : EvD S to mo) (h1 : EvD S te me) : EvL S (tM1 rSplitAny to te) (fun ρ => M.bnd (mo ρ) fun d => M.bnd (asS d) fun z => M.bnd (me ρ) fun e => splitM (.str z) e) := fun B σ H G ρ Q k er q =>
  h B σ H G ρ _ k er ((mo ρ).mono (fun d hd v H1 G1 k1 c1 r1 => by
    cases r1 <;> first
      | exact hd.elim
      | (rename_i z
         refine ⟨⟨z, rfl⟩, h1 B σ H1 G1 ρ _ k1 (er.mono c1.ext) ((me ρ).mono (fun e he v2 H2 G2 k2 c2 r2 => ?_) hd)⟩
         cases r2 <;> first
           | exact he.elim
           | (rename_i y
              refine .inl ⟨z, y, rfl, rfl, he.1.1, by rw [sizeLine_eq]; have := he.1.2; omega, fun p hp => ?_⟩
              exact Rs2.lay k2 (Rs2.after (c1.trans c2) he.2) (rp_strs _) hp))) q)
/-- x += e, numbers -/
theorem sv_augI {g : Int → Int → Int} {i : Nat} {te : TE} {m : Env → M D} (h : EvD S te m) : SvD S X (tAug i te (ipI g)) (fun ρ => M.bnd (M.opt ((mask ρ)[i]?.join)) fun d => M.bnd (asI d) fun a => M.bnd (m (mask ρ)) fun e => M.bnd (asI e) fun b => M.ret (.nx (ρ.set i (some (.f (.int (g a b))))))) := fun B H0 G0 σ H ρ E ⟨G, A, r⟩ q => by
  obtain ⟨d, hd, q⟩ := M.run_opt q
  have e' : (mask ρ)[i]? = some (some d) := by
    cases h1 : (mask ρ)[i]? with
    | none => rw [h1] at hd; cases hd
    | some o => rw [h1] at hd; rw [show o = some d from hd]
  obtain ⟨v, h1, h2⟩ := r.mask.get i d e'
  refine ⟨v, h1, ?_⟩
  cases h2 <;> first
    | exact q.elim
    | (rename_i a
       refine h B σ H G (mask ρ) _ r.ok r.mask ((m (mask ρ)).mono (fun e he v2 H2 G2 k2 c2 r2 => ?_) q)
       cases r2 <;> first
         | exact he.elim
         | (rename_i b
            exact ⟨a, b, rfl, rfl, (show ∀ σ H, Rs S B H0 G0 σ H (ρ.set i (some (.f (.int (g a b))))) → E.nx σ H from he) _ _ ⟨G2, A, (r.step k2 c2).set (.int _) i⟩⟩))
end Dv
namespace Dv
open PySem PySem.Spec PyProof.Rows L2 Sg
variable {S : Base} {B : Bo S} {X : XK}
/-! ### a comprehension with two walks -/
def M.cat {α β : Type} (f : α → M (List β)) : List α → M (List β)
  | [] => M.ret []
  | a :: l => M.bnd (f a) fun xs => M.bnd (M.cat f l) fun ys => M.ret (xs ++ ys)
def lcF2 (b : D → Env → M Env) (mt : Env → M Bool) (mi1 : Env → M (List D)) (b1 : D → Env → M Env) (mt1 : Env → M Bool) (me : Env → M D) (vs1 : List Nat) (ρ : Env) (d : D) : M (List D) :=
  M.bnd (b d ρ) fun ρ' => M.bnd (mt ρ') fun t => if t = true then M.bnd (mi1 ρ') fun es => M.bnd (M.req (es.length ≤ 300)) fun _ => M.sel (lcF b1 mt1 me (wipeE ρ' vs1)) es else M.ret []
theorem lcF2_go (b : D → Env → M Env) (mt : Env → M Bool) (mi1 : Env → M (List D)) (b1 : D → Env → M Env) (mt1 : Env → M Bool) (me : Env → M D) (vs1 : List Nat) (ρ : Env) (d : D) : lcF2 b mt mi1 b1 mt1 me vs1 ρ d =
  M.bnd (b d ρ) fun ρ' => M.bnd (mt ρ') fun t => if t = true then M.bnd (mi1 ρ') fun es => M.bnd (M.req (es.length ≤ 300)) fun _ => M.sel (lcF b1 mt1 me (wipeE ρ' vs1)) es else M.ret [] := rfl
theorem el_lc2 {wi wi1 : TI} {g g1 : TG} {tt tt1 : TT} {te : TE} {vs vs1 js js1 : List Nat} {mi mi1 : Env → M (List D)} {b b1 : D → Env → M Env} {mt mt1 : Env → M Bool} {me : Env → M D} (hj : ∀ j ∈ js, j ∈ vs) (hj1 : ∀ j ∈ js1, j ∈ vs1) (hi : EiD S wi mi) (hg : EgD S g b js) (ht : EvT S tt mt) (hi1 : EiD S wi1 mi1) (hg1 : EgD S g1 b1 js1) (ht1 : EvT S tt1 mt1) (he : EvD S te me) :
    EvL S (tLc2 wi g tt wi1 g1 tt1 te vs vs1) (fun ρ => M.bnd (mi ρ) fun ds => M.bnd (M.req (ds.length ≤ 300)) fun _ => M.cat (lcF2 b mt mi1 b1 mt1 me vs1 (wipeE ρ vs)) ds) := fun B σ H G ρ Q k er q =>
  hi B σ H G ρ _ k er ((mi ρ).mono (fun ds hd J H1 G1 k1 c1 wk Dl nD => by
    have nDH : FrA H Dl := c1.fr _ (FrA.of nD)
    have nb : ∀ q, B.bq ≠ some (Dl, q) := fun q e => k.ne e nDH rfl
    have aw := k.away nDH
    refine ⟨fun i m L => m = ds.length - i ∧ i ≤ ds.length ∧ ∃ GL acc done, Ok B L GL ∧ Ch B H1 G1 L GL ∧ L Dl = some (.lst acc) ∧ GL Dl = none ∧ RpA S B GL acc done ∧ done.length ≤ 300 * i ∧ (M.cat (lcF2 b mt mi1 b1 mt1 me vs1 (wipeE ρ vs)) (ds.drop i)).run (fun rest => Rs2 S B H G Q (done ++ rest)), ⟨_, rfl, Nat.zero_le _, ?_⟩, ?_⟩
    · obtain ⟨k2, c2⟩ := k1.lay nD (.lst [])
      exact ⟨G1, [], [], k2, c2, upd_same, k1.sub.free nD, .nil, Nat.zero_le _, hd.2⟩
    · rintro i m L ⟨rfl, hi', GL, acc, done, kL, cL, hD, gD, rD, hdl, hr⟩
      rcases Nat.lt_or_ge i ds.length with hlt | hge
      · refine .inr ⟨wk.go i L GL kL cL.ext hlt, fun L' => (i + 1) ≤ ds.length ∧ ∃ GL acc done, Ok B L' GL ∧ Ch B H1 G1 L' GL ∧ L' Dl = some (.lst acc) ∧ GL Dl = none ∧ RpA S B GL acc done ∧ done.length ≤ 300 * (i + 1) ∧ (M.cat (lcF2 b mt mi1 b1 mt1 me vs1 (wipeE ρ vs)) (ds.drop (i + 1))).run (fun rest => Rs2 S B H G Q (done ++ rest)), fun L' hL => ⟨_, by omega, rfl, hL.1, hL.2⟩, fun x L' y => ?_⟩
        obtain ⟨GY, kY, cY, rY⟩ := wk.yl i L GL x L' kL cL.ext hlt y
        obtain ⟨hDY, gDY⟩ := cY.mine hD gD rfl nb
        have eD : ds.drop i = ds[i] :: ds.drop (i + 1) := List.drop_eq_getElem_cons hlt
        rw [eD] at hr
        have cHY := cL.trans cY
        refine hg B (wipe σ vs) L' GY (wipeE ρ vs) x ds[i] _ kY ((er.mono (c1.trans cHY).ext).wipe vs) rY (M.mono _ (fun ρ' hρ σ' er' ag => ?_) hr)
        refine ⟨by rw [ag.wipe hj, wipe_idem], ?_⟩
        refine ht B σ' L' GY ρ' _ kY er' (M.mono _ (fun t htt L3 G3 k3 c3 => ?_) hρ)
        obtain ⟨hD3, gD3⟩ := c3.mine hDY gDY rfl nb
        cases t with
        | false => exact ⟨hlt, G3, acc, done, k3, cHY.trans c3, hD3, gD3, rD.mono (cY.trans c3).ext, by omega, htt⟩
        | true =>
          refine hi1 B σ' L3 G3 ρ' _ k3 (er'.mono c3.ext) (M.mono _ (fun es hes J1 H4 G4 k4 c4 wk1 => ?_) htt)
          obtain ⟨hD4, gD4⟩ := c4.mine hD3 gD3 rfl nb
          have cH4 := (cHY.trans c3).trans c4
          obtain ⟨hel, hes⟩ := hes
          refine ⟨fun j n L => n = es.length - j ∧ j ≤ es.length ∧ ∃ GL acc done, Ok B L GL ∧ Dv.Sub G4 GL ∧ Ch B H1 G1 L GL ∧ L Dl = some (.lst acc) ∧ GL Dl = none ∧ RpA S B GL acc done ∧ done.length ≤ 300 * i + j ∧ (M.sel (lcF b1 mt1 me (wipeE ρ' vs1)) (es.drop j)).run (fun rest => (M.cat (lcF2 b mt mi1 b1 mt1 me vs1 (wipeE ρ vs)) (ds.drop (i + 1))).run (fun rest2 => Rs2 S B H G Q (done ++ (rest ++ rest2)))), ⟨_, rfl, Nat.zero_le _, G4, acc, done, k4, Dv.Sub.refl G4, cH4, hD4, gD4, rD.mono ((cY.trans c3).trans c4).ext, by omega, hes⟩, ?_⟩
          rintro j n M1 ⟨rfl, hjl, GM, acc1, done1, kM, cM, cM1, hDM, gDM, rDM, hdl1, hrM⟩
          rcases Nat.lt_or_ge j es.length with jlt | jge
          · refine .inr ⟨wk1.go j M1 GM kM cM jlt, fun L' => (j + 1) ≤ es.length ∧ ∃ GL acc done, Ok B L' GL ∧ Dv.Sub G4 GL ∧ Ch B H1 G1 L' GL ∧ L' Dl = some (.lst acc) ∧ GL Dl = none ∧ RpA S B GL acc done ∧ done.length ≤ 300 * i + (j + 1) ∧ (M.sel (lcF b1 mt1 me (wipeE ρ' vs1)) (es.drop (j + 1))).run (fun rest => (M.cat (lcF2 b mt mi1 b1 mt1 me vs1 (wipeE ρ vs)) (ds.drop (i + 1))).run (fun rest2 => Rs2 S B H G Q (done ++ (rest ++ rest2)))), fun L' hL => ⟨_, by omega, rfl, hL.1, hL.2⟩, fun x1 L5 y1 => ?_⟩
            obtain ⟨G5, k5, c5, r5⟩ := wk1.yl j M1 GM x1 L5 kM cM jlt y1
            obtain ⟨hD5, gD5⟩ := c5.mine hDM gDM rfl nb
            have eE : es.drop j = es[j] :: es.drop (j + 1) := List.drop_eq_getElem_cons jlt
            rw [eE] at hrM
            have c45 := cM.trans c5.ext
            refine hg1 B (wipe σ' vs1) L5 G5 (wipeE ρ' vs1) x1 es[j] _ k5 ((er'.mono ((c3.trans c4).ext.trans c45)).wipe vs1) r5 (M.mono _ (fun ρ2 hρ2 σ2 er2 ag2 => ?_) hrM)
            refine ⟨by rw [ag2.wipe hj1, wipe_idem], ?_⟩
            refine ht1 B σ2 L5 G5 ρ2 _ k5 er2 (M.mono _ (fun t2 htt2 L6 G6 k6 c6 => ?_) hρ2)
            obtain ⟨hD6, gD6⟩ := c6.mine hD5 gD5 rfl nb
            cases t2 with
            | false => exact ⟨jlt, G6, acc1, done1, k6, c45.trans c6.ext, (cM1.trans c5).trans c6, hD6, gD6, rDM.mono (c5.trans c6).ext, by omega, htt2⟩
            | true =>
              refine he B σ2 L6 G6 ρ2 _ k6 (er2.mono c6.ext) (M.mono _ (fun y' hy v7 L7 G7 k7 c7 r7 => ?_) htt2)
              obtain ⟨hD7, gD7⟩ := c7.mine hD6 gD6 rfl nb
              have ra := rDM.mono ((c5.trans c6).trans c7).ext
              refine ⟨acc1, hD7, ?_, jlt, G7, acc1 ++ [v7], done1 ++ [y'], k7.upd gD7 (fun u e => by rw [hD7] at e; cases e; rfl) aw, (c45.trans c6.ext).trans c7.ext, ((cM1.trans c5).trans (c6.trans c7)).upd (FrA.of nD), upd_same, gD7, ra.append (.cons r7 .nil), by rw [List.length_append]; exact Nat.succ_le_succ hdl1, ?_⟩
              · rw [ra.length]
                have h3 := hd.1
                have : done1.length < 100000 := by
                  have : 300 * i + j < 300 * 300 + 300 := by
                    have : 300 * i ≤ 300 * 300 := Nat.mul_le_mul_left _ (by omega)
                    omega
                  omega
                exact Nat.lt_of_lt_of_le this (by decide)
              · refine M.mono _ (fun rest hrest => ?_) hy
                refine M.mono _ (fun rest2 h2 => ?_) hrest
                rw [List.append_assoc]
                exact h2
          · obtain rfl : j = es.length := by omega
            refine .inl ⟨wk1.st M1 GM kM cM, hlt, GM, acc1, done1, kM, cM1, hDM, gDM, rDM, by omega, ?_⟩
            rw [List.drop_length] at hrM
            exact hrM
      · obtain rfl : i = ds.length := by omega
        refine .inl ⟨wk.st L GL kL cL.ext, ?_⟩
        rw [List.drop_length] at hr
        have h9 : Rs2 S B H G Q (done ++ []) := hr
        rw [List.append_nil] at h9
        exact h9 Dl acc L GL nDH kL (c1.trans cL) hD gD rD) q)
end Dv
/-! Sorting choices: tuples of ties, all of one length. -/
namespace Sg
open PySem PySem.Spec PyProof.Rows L2
/-- a tie by one number -/
def tcN : List Int → Int
  | [a, b, c] => a * 16384 + b * 128 + c
  | [a, b] => a * 16384 + b * 128
  | _ => 0
def tc (k : List Key) : Int := tcN (k.map numK)
/-- a tie: an arrow or a mark -/
def CK (k : List Key) : Prop := (∃ (c : Nat) (x y : Int), k = [.inr ⟨#[c]⟩, .inl x, .inl y] ∧ 97 ≤ c ∧ c ≤ 99 ∧ 0 ≤ x ∧ x < 128 ∧ 0 ≤ y ∧ y < 128) ∨ ∃ (c : Nat) (x : Int), k = [.inr ⟨#[c]⟩, .inl x] ∧ 112 ≤ c ∧ c ≤ 114 ∧ 0 ≤ x ∧ x < 128
theorem num_c (c : Nat) : numK (.inr ⟨#[c]⟩) = (c : Int) := rfl
theorem tc_a (c : Nat) (x y : Int) : tc [.inr ⟨#[c]⟩, .inl x, .inl y] = (c : Int) * 16384 + x * 128 + y := rfl
theorem tc_m (c : Nat) (x : Int) : tc [.inr ⟨#[c]⟩, .inl x] = (c : Int) * 16384 + x * 128 := rfl
theorem tc_bd {k : List Key} (h : CK k) : 0 ≤ tc k ∧ tc k < 2097152 := by
  rcases h with ⟨c, x, y, rfl, h⟩ | ⟨c, x, rfl, h⟩
  · rw [tc_a]; omega
  · rw [tc_m]; omega
theorem tc_inj {k k' : List Key} (h : CK k) (h' : CK k') (e : tc k = tc k') : k = k' := by
  rcases h with ⟨c, x, y, rfl, h⟩ | ⟨c, x, rfl, h⟩ <;> rcases h' with ⟨c', x', y', rfl, h'⟩ | ⟨c', x', rfl, h'⟩
  · rw [tc_a, tc_a] at e
    obtain rfl : c = c' := by omega
    obtain rfl : x = x' := by omega
    obtain rfl : y = y' := by omega
    rfl
  · rw [tc_a, tc_m] at e
    omega
  · rw [tc_a, tc_m] at e
    omega
  · rw [tc_m, tc_m] at e
    obtain rfl : c = c' := by omega
    obtain rfl : x = x' := by omega
    rfl
/-- a choice by one number -/
def ccN : List Int → Int
  | [] => 0
  | t :: r => t * 2097152 ^ r.length + ccN r
def cc (ks : List (List Key)) : Int := ccN (ks.map tc)
theorem ccN_bd : ∀ {l : List Int}, (∀ t ∈ l, 0 ≤ t ∧ t < 2097152) → 0 ≤ ccN l ∧ ccN l < 2097152 ^ l.length
  | [], _ => ⟨Int.le_refl _, by show (0 : Int) < 2097152 ^ 0; decide⟩
  | t :: r, h => by
    obtain ⟨a, b⟩ := ccN_bd (l := r) fun x hx => h x (List.mem_cons_of_mem _ hx)
    obtain ⟨t0, t1⟩ := h t (List.mem_cons_self ..)
    have hp : (0 : Int) < 2097152 ^ r.length := Int.pow_pos (by decide)
    show 0 ≤ t * 2097152 ^ r.length + ccN r ∧ t * 2097152 ^ r.length + ccN r < 2097152 ^ (r.length + 1)
    rw [Int.pow_succ]
    generalize (2097152 : Int) ^ r.length = p at a b hp ⊢
    have e1 : 0 ≤ t * p := Int.mul_nonneg t0 (by omega)
    have e2 : t * p ≤ 2097151 * p := Int.mul_le_mul_of_nonneg_right (by omega) (by omega)
    constructor
    · omega
    · rw [Int.mul_comm p]
      omega
theorem ccN_lt {t t' : Int} {r r' : List Int} (hl : r.length = r'.length) (h : ∀ x ∈ r, 0 ≤ x ∧ x < 2097152) (h' : ∀ x ∈ r', 0 ≤ x ∧ x < 2097152) (lt : t < t') : ccN (t :: r) < ccN (t' :: r') := by
  obtain ⟨a, b⟩ := ccN_bd h
  obtain ⟨a', b'⟩ := ccN_bd h'
  show t * 2097152 ^ r.length + ccN r < t' * 2097152 ^ r'.length + ccN r'
  rw [← hl] at b' ⊢
  have hp : (0 : Int) < 2097152 ^ r.length := Int.pow_pos (by decide)
  generalize (2097152 : Int) ^ r.length = p at b b' hp ⊢
  have : (t + 1) * p ≤ t' * p := Int.mul_le_mul_of_nonneg_right (by omega) (by omega)
  rw [Int.add_mul, Int.one_mul] at this
  omega
theorem ccN_same {t : Int} {r r' : List Int} (hl : r.length = r'.length) : ccN (t :: r) < ccN (t :: r') ↔ ccN r < ccN r' := by
  show t * 2097152 ^ r.length + ccN r < t * 2097152 ^ r'.length + ccN r' ↔ _
  rw [hl]
  omega
def itemsOf (h : Heap) : Value → List Value
  | .ref a => match h.get? a with
    | some o => match o.data with
      | .seq xs _ => xs.toList
      | _ => []
    | none => []
  | _ => []
/-- a choice's number, read off the heap -/
def cvOf (h : Heap) (v : Value) : Int := ccN ((itemsOf h v).map fun x => tcN (numsOf h x))
section
variable {P : Program} {w : World} {A : Around} {E : Value → Shared → Prop} {s : Shared}
/-- a choice as it stands: a tuple at a, of the ties ks -/
structure ChAt (P : Program) (w : World) (h : Heap) (a : Addr) (ks : List TK) : Prop where
  ob : ∃ o xs n, h.get? a = some o ∧ o.cls = .type "tuple" ∧ o.data = .seq xs n ∧ xs.toList = refsV ks
  key : ∀ p ∈ ks, IsTupleKey (mixKind P w) h p.2 p.1
  ck : ∀ p ∈ ks, CK p.2
theorem ChAt.num {h : Heap} {a : Addr} {ks : List TK} (c : ChAt P w h a ks) : cvOf h (.ref a) = cc (ks.map (·.2)) := by
  obtain ⟨o, xs, n, ho, hc, hd, hx⟩ := c.ob
  unfold cvOf cc
  simp only [itemsOf, ho, hd, hx]
  congr 1
  rw [List.map_map, List.map_map]
  refine List.map_congr_left fun p hp => ?_
  show tcN (numsOf h (.ref p.1)) = tc p.2
  rw [nums_at (c.key p hp)]
  rfl
theorem ChAt.keep {h h' : Heap} {a : Addr} {ks : List TK} (c : ChAt P w h a ks) (k : ∀ b o, h.get? b = some o → o.cls = .type "tuple" → h'.get? b = some o) : ChAt P w h' a ks := by
  obtain ⟨o, xs, n, ho, hc, r⟩ := c.ob
  refine ⟨⟨o, xs, n, k _ _ ho hc, hc, r⟩, fun p hp => ?_, c.ck⟩
  obtain ⟨o, its, n, ho, hc, r⟩ := c.key p hp
  exact ⟨o, its, n, k _ _ ho hc, hc, r⟩
theorem items_tie {k : List Key} {vs : List Value} (h : ItemsAre (mixKind P w) k vs) (c : CK k) : (∃ (n : Nat) (x y : Int) (t u z : Tok), k = [.inr ⟨#[n]⟩, .inl x, .inl y] ∧ vs = [.str ⟨#[n]⟩ t, .int x u, .int y z]) ∨ ∃ (n : Nat) (x : Int) (t u : Tok), k = [.inr ⟨#[n]⟩, .inl x] ∧ vs = [.str ⟨#[n]⟩ t, .int x u] := by
  have one : ∀ {k0 : Key} {v : Value}, (mixKind P w).is k0 v = true → (∀ n, k0 = .inr ⟨#[n]⟩ → ∃ t, v = .str ⟨#[n]⟩ t) ∧ ∀ i, k0 = .inl i → ∃ t, v = .int i t := fun {k0 v} hh => by
    rcases is_shape hh with ⟨i, t, rfl, rfl⟩ | ⟨x, t, rfl, rfl⟩
    · exact ⟨(fun n e => by cases e), (fun j e => by cases e; exact ⟨t, rfl⟩)⟩
    · exact ⟨(fun n e => by cases e; exact ⟨t, rfl⟩), (fun j e => by cases e)⟩
  rcases c with ⟨n, x, y, rfl, _⟩ | ⟨n, x, rfl, _⟩
  · cases h with
    | cons h1 h => cases h with
      | cons h2 h => cases h with
        | cons h3 h =>
          cases h
          obtain ⟨t, rfl⟩ := (one h1).1 n rfl
          obtain ⟨u, rfl⟩ := (one h2).2 x rfl
          obtain ⟨z, rfl⟩ := (one h3).2 y rfl
          exact .inl ⟨n, x, y, t, u, z, rfl, rfl⟩
  · cases h with
    | cons h1 h => cases h with
      | cons h2 h =>
        cases h
        obtain ⟨t, rfl⟩ := (one h1).1 n rfl
        obtain ⟨u, rfl⟩ := (one h2).2 x rfl
        exact .inr ⟨n, x, t, u, rfl, rfl⟩
theorem rc_str (a b : Str) (t u : Tok) : Ob.RcOp .Lt A s (.str a t) (.str b u) (decide (a.cps.toList < b.cps.toList)) := fun prog w E Q h => PyProof.Rows.lt_str h
/-- two ties that are not one, by < -/
theorem tie_lt {a b : Addr} {k k' : List Key} {Q : Bool → Shared → Prop} (hu : A.units < cLine) (ha : IsTupleKey (mixKind P w) s.heap k a) (hb : IsTupleKey (mixKind P w) s.heap k' b) (c : CK k) (c' : CK k') (ne : k ≠ k') (h : Q (decide (tc k < tc k')) s) :
    wpAny (model P w) A (oneLt' false (.ref a) (.ref b)) Q E s := by
  obtain ⟨o, its, n, ho, hc, hd, hi⟩ := ha
  obtain ⟨o', its', n', ho', hc', hd', hi'⟩ := hb
  have ta : s.heap.IsTuple a its := ⟨o, ho, hc, n, hd⟩
  have tb : s.heap.IsTuple b its' := ⟨o', ho', hc', n', hd'⟩
  have eqs : ∀ (p q : Nat), ((⟨#[p]⟩ : Str) == ⟨#[q]⟩) = decide (p = q) := fun p q => by
    rw [Bool.eq_iff_iff, beq_iff_eq, decide_eq_true_eq]
    exact ⟨fun z => by injection z with z; injection z with z; injection z, fun z => by rw [z]⟩
  have eqi : ∀ (p q : Int), (p == q) = decide (p = q) := fun p q => by
    rw [Bool.eq_iff_iff, beq_iff_eq, decide_eq_true_eq]
  have fin : ∀ (e r : Nat → Bool), (∀ j (h1 : j < its.size) (h2 : j < its'.size), SeqAt.EqAt A.in1 s its[j] its'[j] (e j)) → (∀ j (h1 : j < its.size) (h2 : j < its'.size), e j = false → Ob.RcOp .Lt A.in1 s its[j] its'[j] (r j)) → Ob.lexAt e r (decide (its.size < its'.size)) 0 (min its.size its'.size) = decide (tc k < tc k') → wpAny (model P w) A (oneLt' false (.ref a) (.ref b)) Q E s := fun e r h1 h2 h3 => by
    refine PySem.W.kat_one _ _ ?_
    refine Ob.RcOp.tuples_lt ta tb hu h1 h2 P w E _ ?_
    rw [h3]
    exact h
  have nats : ∀ p q : Nat, decide (([p] : List Nat) < [q]) = decide (p < q) := fun p q => by
    rw [lt_one]
    exact decide_eq_decide.mpr Int.ofNat_lt
  rcases items_tie hi c with ⟨p, x, y, t, u, z, rfl, e1⟩ | ⟨p, x, t, u, rfl, e1⟩ <;> rcases items_tie hi' c' with ⟨p', x', y', t', u', z', rfl, e2⟩ | ⟨p', x', t', u', rfl, e2⟩
  · have i1 : its = #[.str ⟨#[p]⟩ t, .int x u, .int y z] := by rw [← Array.toArray_toList (xs := its), e1]
    have i2 : its' = #[.str ⟨#[p']⟩ t', .int x' u', .int y' z'] := by rw [← Array.toArray_toList (xs := its'), e2]
    subst i1 i2
    refine fin (fun j => match j with | 0 => decide (p = p') | 1 => decide (x = x') | _ => decide (y = y')) (fun j => match j with | 0 => decide (p < p') | 1 => decide (x < x') | _ => decide (y < y')) (fun j h1 h2 => ?_) (fun j h1 h2 _ => ?_) ?_
    · match j, h1, h2 with
      | 0, _, _ => rw [← eqs]; exact SeqAt.EqAt.str_str _ _ _ _
      | 1, _, _ => rw [← eqi]; exact SeqAt.EqAt.int_int _ _ _ _
      | 2, _, _ => rw [← eqi]; exact SeqAt.EqAt.int_int _ _ _ _
    · match j, h1, h2 with
      | 0, _, _ => rw [← nats]; exact rc_str _ _ _ _
      | 1, _, _ => exact Ob.RcOp.lt_int _ _ _ _
      | 2, _, _ => exact Ob.RcOp.lt_int _ _ _ _
    · rw [tc_a, tc_a]
      rcases c with ⟨_, _, _, ee, hh⟩ | ⟨_, _, ee, _⟩
      · rcases c' with ⟨_, _, _, ee', hh'⟩ | ⟨_, _, ee', _⟩
        · cases ee
          cases ee'
          show Ob.lexAt _ _ (decide (3 < 3)) 0 3 = _
          simp only [Ob.lexAt_succ, Ob.lexAt_zero, decide_eq_true_eq]
          by_cases h1 : p = p'
          · by_cases h2 : x = x'
            · by_cases h3 : y = y'
              · exact absurd (by rw [h1, h2, h3]) ne
              · rw [if_pos h1, if_pos h2, if_neg h3]
                exact decide_eq_decide.mpr (by omega)
            · rw [if_pos h1, if_neg h2]
              exact decide_eq_decide.mpr (by omega)
          · rw [if_neg h1]
            exact decide_eq_decide.mpr (by omega)
        · cases ee'
      · cases ee
  · have i1 : its = #[.str ⟨#[p]⟩ t, .int x u, .int y z] := by rw [← Array.toArray_toList (xs := its), e1]
    have i2 : its' = #[.str ⟨#[p']⟩ t', .int x' u'] := by rw [← Array.toArray_toList (xs := its'), e2]
    subst i1 i2
    refine fin (fun j => match j with | 0 => decide (p = p') | _ => decide (x = x')) (fun j => match j with | 0 => decide (p < p') | _ => decide (x < x')) (fun j h1 h2 => ?_) (fun j h1 h2 _ => ?_) ?_
    · match j, h1, h2 with
      | 0, _, _ => rw [← eqs]; exact SeqAt.EqAt.str_str _ _ _ _
      | 1, _, _ => rw [← eqi]; exact SeqAt.EqAt.int_int _ _ _ _
    · match j, h1, h2 with
      | 0, _, _ => rw [← nats]; exact rc_str _ _ _ _
      | 1, _, _ => exact Ob.RcOp.lt_int _ _ _ _
    · rw [tc_a, tc_m]
      rcases c with ⟨_, _, _, ee, hh⟩ | ⟨_, _, ee, _⟩
      · rcases c' with ⟨_, _, _, ee', _⟩ | ⟨_, _, ee', hh'⟩
        · cases ee'
        · cases ee
          cases ee'
          show Ob.lexAt _ _ (decide (3 < 2)) 0 2 = _
          simp only [Ob.lexAt_succ, Ob.lexAt_zero, decide_eq_true_eq]
          rw [if_neg (by omega)]
          exact decide_eq_decide.mpr (by omega)
      · cases ee
  · have i1 : its = #[.str ⟨#[p]⟩ t, .int x u] := by rw [← Array.toArray_toList (xs := its), e1]
    have i2 : its' = #[.str ⟨#[p']⟩ t', .int x' u', .int y' z'] := by rw [← Array.toArray_toList (xs := its'), e2]
    subst i1 i2
    refine fin (fun j => match j with | 0 => decide (p = p') | _ => decide (x = x')) (fun j => match j with | 0 => decide (p < p') | _ => decide (x < x')) (fun j h1 h2 => ?_) (fun j h1 h2 _ => ?_) ?_
    · match j, h1, h2 with
      | 0, _, _ => rw [← eqs]; exact SeqAt.EqAt.str_str _ _ _ _
      | 1, _, _ => rw [← eqi]; exact SeqAt.EqAt.int_int _ _ _ _
    · match j, h1, h2 with
      | 0, _, _ => rw [← nats]; exact rc_str _ _ _ _
      | 1, _, _ => exact Ob.RcOp.lt_int _ _ _ _
    · rw [tc_m, tc_a]
      rcases c with ⟨_, _, _, ee, _⟩ | ⟨_, _, ee, hh⟩
      · cases ee
      · rcases c' with ⟨_, _, _, ee', hh'⟩ | ⟨_, _, ee', _⟩
        · cases ee
          cases ee'
          show Ob.lexAt _ _ (decide (2 < 3)) 0 2 = _
          simp only [Ob.lexAt_succ, Ob.lexAt_zero, decide_eq_true_eq]
          rw [if_neg (by omega)]
          exact decide_eq_decide.mpr (by omega)
        · cases ee'
  · have i1 : its = #[.str ⟨#[p]⟩ t, .int x u] := by rw [← Array.toArray_toList (xs := its), e1]
    have i2 : its' = #[.str ⟨#[p']⟩ t', .int x' u'] := by rw [← Array.toArray_toList (xs := its'), e2]
    subst i1 i2
    refine fin (fun j => match j with | 0 => decide (p = p') | _ => decide (x = x')) (fun j => match j with | 0 => decide (p < p') | _ => decide (x < x')) (fun j h1 h2 => ?_) (fun j h1 h2 _ => ?_) ?_
    · match j, h1, h2 with
      | 0, _, _ => rw [← eqs]; exact SeqAt.EqAt.str_str _ _ _ _
      | 1, _, _ => rw [← eqi]; exact SeqAt.EqAt.int_int _ _ _ _
    · match j, h1, h2 with
      | 0, _, _ => rw [← nats]; exact rc_str _ _ _ _
      | 1, _, _ => exact Ob.RcOp.lt_int _ _ _ _
    · rw [tc_m, tc_m]
      rcases c with ⟨_, _, _, ee, _⟩ | ⟨_, _, ee, hh⟩
      · cases ee
      · rcases c' with ⟨_, _, _, ee', _⟩ | ⟨_, _, ee', hh'⟩
        · cases ee'
        · cases ee
          cases ee'
          show Ob.lexAt _ _ (decide (2 < 2)) 0 2 = _
          simp only [Ob.lexAt_succ, Ob.lexAt_zero, decide_eq_true_eq]
          by_cases h1 : p = p'
          · by_cases h2 : x = x'
            · exact absurd (by rw [h1, h2]) ne
            · rw [if_pos h1, if_neg h2]
              exact decide_eq_decide.mpr (by omega)
          · rw [if_neg h1]
            exact decide_eq_decide.mpr (by omega)
/-- two choices -/
theorem lex_ch {Q : Bool → Shared → Prop} (hu : A.units < cLine) : ∀ {ks ks' : List TK} (i : Nat), ks.length = ks'.length → (∀ p ∈ ks, IsTupleKey (mixKind P w) s.heap p.2 p.1) → (∀ p ∈ ks', IsTupleKey (mixKind P w) s.heap p.2 p.1) → (∀ p ∈ ks, CK p.2) → (∀ p ∈ ks', CK p.2) → Q (decide (cc (ks.map (·.2)) < cc (ks'.map (·.2)))) s →
    PySem.W.KatLex P w A false false Q ((refsV ks).zip (refsV ks')) i s
  | [], [], _, _, _, _, _, _, h => by
    have e : decide (cc (([] : List TK).map (·.2)) < cc (([] : List TK).map (·.2))) = false := rfl
    rw [e] at h
    exact PySem.W.kat_nil h
  | [], _ :: _, _, hl, _, _, _, _, _ => by cases hl
  | _ :: _, [], _, hl, _, _, _, _, _ => by cases hl
  | p :: ks, p' :: ks', i, hl, h1, h2, c1, c2, h => by
    have hl' : ks.length = ks'.length := Nat.succ.inj hl
    have k1 := h1 p (List.mem_cons_self ..)
    have k2 := h2 p' (List.mem_cons_self ..)
    have d1 := c1 p (List.mem_cons_self ..)
    have d2 := c2 p' (List.mem_cons_self ..)
    have b1 : ∀ x ∈ (ks.map (·.2)).map tc, 0 ≤ x ∧ x < 2097152 := fun x hx => by
      rw [List.map_map] at hx
      obtain ⟨q, hq, rfl⟩ := List.mem_map.mp hx
      exact tc_bd (c1 q (List.mem_cons_of_mem _ hq))
    have b2 : ∀ x ∈ (ks'.map (·.2)).map tc, 0 ≤ x ∧ x < 2097152 := fun x hx => by
      rw [List.map_map] at hx
      obtain ⟨q, hq, rfl⟩ := List.mem_map.mp hx
      exact tc_bd (c2 q (List.mem_cons_of_mem _ hq))
    have ll : ((ks.map (·.2)).map tc).length = ((ks'.map (·.2)).map tc).length := by simp only [List.length_map]; exact hl'
    show PySem.W.KatLex P w A false false Q ((Value.ref p.1, Value.ref p'.1) :: (refsV ks).zip (refsV ks')) i s
    have h : Q (decide (ccN (tc p.2 :: (ks.map (·.2)).map tc) < ccN (tc p'.2 :: (ks'.map (·.2)).map tc))) s := h
    refine PySem.W.kat_cons (wpAny_eqBool_tuple hu k1 k2 ?_)
    by_cases e : p.2 = p'.2
    · rw [decide_eq_true e]
      refine PySem.W.kat_yes (lex_ch hu (i + 1) hl' (fun q hq => h1 q (List.mem_cons_of_mem _ hq)) (fun q hq => h2 q (List.mem_cons_of_mem _ hq)) (fun q hq => c1 q (List.mem_cons_of_mem _ hq)) (fun q hq => c2 q (List.mem_cons_of_mem _ hq)) ?_)
      rw [e, decide_eq_decide.mpr (ccN_same ll)] at h
      exact h
    · rw [decide_eq_false e]
      refine PySem.W.kat_no ?_
      show wpAny (model P w) A (oneLt' false (.ref p.1) (.ref p'.1)) Q (fun _ _ => False) s
      refine tie_lt hu k1 k2 d1 d2 e ?_
      have : decide (ccN (tc p.2 :: (ks.map (·.2)).map tc) < ccN (tc p'.2 :: (ks'.map (·.2)).map tc)) = decide (tc p.2 < tc p'.2) := by
        refine decide_eq_decide.mpr ⟨fun z => ?_, fun z => ccN_lt ll b1 b2 z⟩
        rcases Int.lt_trichotomy (tc p.2) (tc p'.2) with y | y | y
        · exact y
        · exact absurd (tc_inj d1 d2 y) e
        · have := ccN_lt ll.symm b2 b1 y
          omega
      rw [← this]
      exact h
theorem swo_rank (r : Value → Int) : SrtO.Swo (fun v u => decide (r v < r u)) := ⟨fun x y h => by
  rw [decide_eq_true_eq] at h
  exact decide_eq_false (by omega), fun x y z h1 h2 => by
  have a := of_decide_eq_false h1
  have b := of_decide_eq_false h2
  exact decide_eq_false (by omega)⟩
abbrev CH := Addr × List TK
abbrev crefs (L : List CH) : List V := L.map fun p => V.ref p.1
abbrev crefsV (L : List CH) : List Value := L.map fun p => Value.ref p.1
abbrev ccOf (p : CH) : Int := cc (p.2.map (·.2))
theorem pick_permC : ∀ {vs : List Value} {ks : List CH}, vs.Perm (crefsV ks) → ∃ ks' : List CH, vs = crefsV ks' ∧ ks'.Perm ks := by
  intro vs ks h
  generalize e : crefsV ks = us at h
  induction h generalizing ks with
  | nil =>
    cases ks with
    | nil => exact ⟨[], rfl, .nil⟩
    | cons _ _ => cases e
  | @cons x l1 l2 h ih =>
    cases ks with
    | nil => cases e
    | cons p r =>
      obtain ⟨e1, e2⟩ := List.cons.inj e
      obtain ⟨k', e3, pm⟩ := ih e2
      exact ⟨p :: k', by rw [e3, ← e1]; rfl, .cons p pm⟩
  | swap x y l =>
    cases ks with
    | nil => cases e
    | cons p r =>
      cases r with
      | nil => cases (List.cons.inj e).2
      | cons q r =>
        obtain ⟨e1, e2⟩ := List.cons.inj e
        obtain ⟨e3, e4⟩ := List.cons.inj e2
        exact ⟨q :: p :: r, by rw [← e1, ← e3, ← e4]; rfl, .swap p q r⟩
  | trans h1 h2 ih1 ih2 =>
    obtain ⟨k2, e2, p2⟩ := ih2 e
    obtain ⟨k1, e1, p1⟩ := ih1 e2.symm
    exact ⟨k1, e1, p1.trans p2⟩
theorem ch_firsts {h : Heap} {d : Nat} (hd : 0 < d) : ∀ L : List CH, (∀ p ∈ L, ChAt P w h p.1 p.2 ∧ p.2.length = d) → ∃ fs, PySem.W.KatTups h (crefsV L) fs ∧ fs.length = L.length ∧ ∀ f, f ∈ fs → ∃ b k, f = Value.ref b ∧ IsTupleKey (mixKind P w) h k b
  | [], _ => ⟨[], PySem.W.KatTups.nil, rfl, fun f hf => nomatch hf⟩
  | p :: L, hc => by
    obtain ⟨fs, k1, l1, i1⟩ := ch_firsts hd L fun q hq => hc q (List.mem_cons_of_mem _ hq)
    obtain ⟨c, hl⟩ := hc p (List.mem_cons_self ..)
    obtain ⟨o, xs, n, ho, hcl, hdt, hx⟩ := c.ob
    cases e : p.2 with
    | nil => rw [e] at hl; simp at hl; omega
    | cons t r =>
      rw [e] at hx
      refine ⟨.ref t.1 :: fs, PySem.W.KatTups.cons ho hcl hdt (by rw [← Array.getElem?_toList, hx]; rfl) k1, by rw [List.length_cons, List.length_cons, l1], fun f hf => ?_⟩
      rcases List.mem_cons.mp hf with rfl | hf
      · exact ⟨t.1, t.2, rfl, c.key t (by rw [e]; exact List.mem_cons_self ..)⟩
      · exact i1 f hf
/-- sorted(xs), xs a list of choices -/
theorem sorted_ch {l : Addr} {L : List CH} {d : Nat} {Q : Value → Shared → Prop} (hu : A.units + 4 < cLine) (hl : s.heap.IsList l (crefsV L).toArray) (hz : L.length ≤ 1000) (hd : 0 < d) (hc : ∀ p ∈ L, ChAt P w s.heap p.1 p.2 ∧ p.2.length = d)
    (h : ∀ (h' : Heap) (p : Addr) (c : Nat) (out : Array Value) (L' : List CH), (∀ b o, s.heap.get? b = some o → h'.get? b = some o) → s.heap.objs.size ≤ p → h'.get? p = some (seqObj "list" out c) → out.toList = crefsV L' → L'.Perm L → L'.Pairwise (fun p q => ccOf p ≤ ccOf q) → Q (.ref p) { s with heap := h' }) :
    wpAny (model P w) A (call (.builtin "sorted") [.ref l]) Q E s := by
  have hzl : (crefsV L).length ≤ sizeLine := by rw [List.length_map, sizeLine_eq]; omega
  refine SrtO.sorted_ord (swo_rank (cvOf s.heap)) hl hzl (fun h2 h₁ a ha kk => ?_) fun out hs hb => ?_
  · intro h3 keep
    have hk : ∀ b o, s.heap.get? b = some o → o.cls = .type "tuple" → h3.get? b = some o := fun b o e c => keep b o (kk b o e).1 (kk b o e).2
    have hc3 : ∀ p ∈ L, ChAt P w h3 p.1 p.2 ∧ p.2.length = d := fun p hp => ⟨(hc p hp).1.keep hk, (hc p hp).2⟩
    obtain ⟨fs, kt, hfl, hf⟩ := ch_firsts hd L hc3
    rw [List.length_map] at h2
    refine ⟨tuples' false, fun Q' E' hq => ?_, fun p q hp hq => ?_⟩
    · refine PySem.W.kat_kind (T := Value.type "tuple") kt (by omega) (fun f hfm => ?_) rfl ?_
      · obtain ⟨b, k, rfl, o, its, n, ho, hcl, _⟩ := hf f hfm
        exact fun _ _ _ _ kp hq => wpAny_typeOf_ref (kp _ _ ho) (by rw [hcl]; exact hq)
      · have e : (Value.type "tuple" != Value.type "tuple") = false := by first | decide +kernel | rfl | decide
        rw [e]
        exact hq
    · obtain ⟨u, hu1, e1⟩ := List.mem_map.mp hp
      obtain ⟨v, hv1, e2⟩ := List.mem_map.mp hq
      show wpAny (model P w) A.in1.in1 (keyLt' (tuples' false) p.1 q.1) (fun r s' => s' = _ ∧ r = decide (cvOf s.heap p.1 < cvOf s.heap q.1)) (fun _ _ => False) _
      rw [← e1, ← e2]
      obtain ⟨cu, lu⟩ := hc3 u hu1
      obtain ⟨cw, lv⟩ := hc3 v hv1
      rw [(hc u hu1).1.num, (hc v hv1).1.num]
      obtain ⟨o, xs, n, ho, hcl, hdt, hx⟩ := cu.ob
      obtain ⟨o', xs', n', ho', hcl', hdt', hx'⟩ := cw.ob
      refine PySem.W.kat_lt ho hdt ho' hdt' ?_
      have sz : decide (xs.size < xs'.size) = false := by
        have z1 := congrArg List.length hx
        have z2 := congrArg List.length hx'
        rw [List.length_map, Array.length_toList] at z1 z2
        exact decide_eq_false (by omega)
      rw [sz, hx, hx']
      exact lex_ch (s := { s with heap := h3 }) (by simp only [Around.in1_units]; omega) 0 (by omega) cu.key cw.key cu.ck cw.ck ⟨rfl, rfl⟩
  · obtain ⟨L', e, pm⟩ := pick_permC hb.perm
    obtain ⟨c, hat⟩ := sortedAll_at s.heap (crefsV L) out.toArray
    refine h _ _ c out.toArray L' (fun b o e => sortedAll_old e) (Nat.le_succ _) hat (by rw [← e]) pm ?_
    rw [e] at hs
    refine List.Pairwise.imp_of_mem (fun {p q} hp hq hle => ?_) (List.pairwise_map.mp hs)
    have hle : decide (cvOf s.heap (.ref q.1) < cvOf s.heap (.ref p.1)) = false := hle
    rw [(hc p (pm.mem_iff.mp hp)).1.num, (hc q (pm.mem_iff.mp hq)).1.num] at hle
    have := of_decide_eq_false hle
    show cc _ ≤ cc _
    omega
end
section
variable {X : Cx} {pins : List (Addr × Obj)} {σ : L2.St} {H : Hp} {s : Shared}
/-- a choice among what is tracked -/
structure ChH (K : PySem.W.Frag) (H : Hp) (d : Nat) (p : CH) : Prop where
  tp : SqT K H p.1 (refs p.2)
  key : ∀ q ∈ p.2, SqT K H q.1 (q.2.map kV)
  ck : ∀ q ∈ p.2, CK q.2
  len : p.2.length = d
theorem ch_at (I : L2.Inv X pins σ H s) {d : Nat} {p : CH} (h : ChH X.K H d p) : ChAt X.prog X.w s.heap p.1 p.2 := by
  obtain ⟨its, r, ⟨o, ho, hc, n, hd⟩, _⟩ := I.tuple h.tp
  have e := refs_vals r
  exact ⟨⟨o, its.toArray, n, ho, hc, hd, by simpa using e⟩, fun q hq => key_at I (h.key q hq), h.ck⟩
theorem vals_crefs : ∀ ks : List CH, Vals (crefs ks) (crefsV ks)
  | [] => .nil
  | p :: ks => .cons rfl (vals_crefs ks)
theorem crefs_vals : ∀ {ks : List CH} {us : List Value}, Vals (crefs ks) us → us = crefsV ks
  | [], _, .nil => rfl
  | p :: ks, _, .cons h r => by
    have h' : _ = Value.ref p.1 := h
    rw [h', crefs_vals r]
    rfl
def rSortC (K : PySem.W.Frag) : List V → Hp → VK → Prop := fun vs H Q => ∃ a L d, vs = [V.ref a] ∧ SqL K H a (crefs L) ∧ L.length ≤ 1000 ∧ 0 < d ∧ (∀ p ∈ L, ChH K H d p) ∧
  ∀ L' p, L'.Perm L → L'.Pairwise (fun p q => ccOf p ≤ ccOf q) → H p = none → Q (.ref p) (upd H p (.lst (crefs L')))
theorem cr_sortC {K : PySem.W.Frag} (hK : X.K = K) (hu : X.A.units + 64 < cLine) : CallR X (.builtin "sorted") (rSortC K) := by
  subst hK
  rintro pins s σ H vs us Q I r ⟨a, L, d, rfl, hl, hz, hd, hc, q⟩
  rw [Vals.ref1 r]
  obtain ⟨its, rv, pl, _⟩ := I.list hl
  have ei := crefs_vals rv
  subst ei
  refine sorted_ch (by omega) pl.isList hz hd (fun p hp => ⟨ch_at I (hc p hp), (hc p hp).len⟩) fun h' p c out L' k hp hg ho pm pw => ?_
  have hlen : (crefs L').length ≤ sizeLine := by
    rw [List.length_map, pm.length_eq, sizeLine_eq]
    omega
  have hv : Vals (crefs L') out.toList := by
    rw [ho]
    exact vals_crefs L'
  exact ⟨.ref p, _, I.laid (o := .lst (crefs L')) (t' := s.toks) k hp ⟨hlen, out.toList, c, hv, hg⟩, rfl, q L' p pm pw (I.hok.fresh hp)⟩
end
end Sg
namespace Dv
open PySem PySem.Spec PyProof.Rows L2 Sg
variable {S : Base} {B : Bo S} {X : XK}
theorem M.cat_map {α β γ : Type} {f : α → M (List γ)} {g : β → α} {h : β → List γ} : ∀ {l : List β}, (∀ b ∈ l, (f (g b)).run fun xs => xs = h b) → (M.cat f (l.map g)).run fun ys => ys = l.flatMap h
  | [], _ => rfl
  | b :: l, hf => by
    show (f (g b)).run fun xs => (M.cat f (l.map g)).run fun ys => xs ++ ys = _
    refine (f (g b)).mono (fun xs hx => ?_) (hf b (List.mem_cons_self ..))
    refine (M.cat f (l.map g)).mono (fun ys hy => ?_) (M.cat_map (l := l) fun c hc => hf c (List.mem_cons_of_mem _ hc))
    rw [hx, hy]
    rfl
/-! ### what was one's own stays as it is from now on -/
theorem RsG.frz {H0 G0 H G : Hp} {σ : L2.St} {ρ : Ev} {A : Nat → Addr} (r : RsG S B H0 G0 σ H ρ G A) {i : Nat} {s : Sl} (e : ρ[i]? = some (some s)) (w : s.owned = true) : ∃ G', RsG S B H0 G0 σ H (ρ.set i (some (.f s.data))) G' A := by
  obtain ⟨h1, h2, h3, o, h4, h5⟩ := r.ow i s e w
  have hs : Dv.Sub G (L2.upd G (A i) o) := sub_new h3
  refine ⟨L2.upd G (A i) o, r.aw, ⟨fun a u q => ?_, fun b q z => ?_, r.ok.bx, r.ok.tb, fun a ps q => ?_⟩, ⟨r.ch.ch, r.ch.fr, r.ch.ext.trans hs, fun a u q => ?_⟩, by rw [List.length_set]; exact r.len, fun j d q => ?_, fun j t q w' => ?_, fun j j' t t' q1 q2 w1 w2 ne => ?_⟩
  · by_cases z : a = A i
    · subst z; rw [upd_same] at q; cases q; exact h4
    · rw [upd_ne z] at q; exact r.ok.sub a u q
  · rw [upd_ne (r.away h2 b q z).1]
    exact r.ok.nm b q z
  · by_cases z : a = A i
    · subst z; rw [upd_same] at q; cases q; exact plainO.nt h5.pl ps rfl
    · rw [upd_ne z] at q; exact r.ok.nt a ps q
  · by_cases z : a = A i
    · subst z; exact .inr h2
    · rw [upd_ne z] at q; exact r.ch.new a u q
  · rcases get_set q with ⟨rfl, z⟩ | ⟨n, q⟩
    · cases z
      exact ⟨_, h1, Ow.rp upd_same (h5.mono hs)⟩
    · obtain ⟨u, k1, k2⟩ := r.fz j d q
      exact ⟨u, k1, k2.mono hs⟩
  · rcases get_set q with ⟨rfl, z⟩ | ⟨n, q⟩
    · cases z; cases w'
    · obtain ⟨k1, k2, k3, o', k4, k5⟩ := r.ow j t q w'
      exact ⟨k1, k2, by rw [upd_ne (r.dj j i t s q e w' w n)]; exact k3, o', k4, k5.mono hs⟩
  · rcases get_set q1 with ⟨rfl, z⟩ | ⟨n, q1⟩
    · cases z; cases w1
    · rcases get_set q2 with ⟨rfl, z⟩ | ⟨n2, q2⟩
      · cases z; cases w2
      · exact r.dj j j' t t' q1 q2 w1 w2 ne
theorem sv_frz {i : Nat} {t : TS} {g : Ev → M Ou} (h : SvD S X t g) : SvD S X t (fun ρ => M.bnd (ownL ρ i) fun ds => g (ρ.set i (some (.f (.lst ds))))) := fun B H0 G0 σ H ρ E ⟨G, A, r⟩ q => by
  obtain ⟨ds, e, q⟩ := ownL_run q
  obtain ⟨G', r'⟩ := r.frz e rfl
  exact h B H0 G0 σ H _ E ⟨G', A, r'⟩ q
/-! ### x.reverse() -/
theorem RpA.rev {G : Hp} : ∀ {xs : List V} {ds : List D}, RpA S B G xs ds → RpA S B G xs.reverse ds.reverse
  | _, _, .nil => .nil
  | _, _, .cons h r => by
    rw [List.reverse_cons, List.reverse_cons]
    exact (RpA.rev r).append (.cons h .nil)
theorem sv_rev {i : Nat} : SvD S X (tDrop (tBM0 S.K "list" rReverse (tVar i))) (fun ρ => M.bnd (ownL ρ i) fun ds => M.ret (.nx (ρ.set i (some (.o ds.reverse))))) := fun B H0 G0 σ H ρ E ⟨G, A, r⟩ q => by
  obtain ⟨ds, e, q⟩ := ownL_run q
  obtain ⟨h1, h2, h3, o, h4, h5⟩ := r.ow i _ e rfl
  cases o <;> first
    | exact h5.elim
    | (rename_i xs
       refine ⟨_, h1, .inl ⟨rfl, _, SqL.of h4⟩, _, xs, rfl, rfl, h4, ?_⟩
       exact (show ∀ σ H, Rs S B H0 G0 σ H _ → E.nx σ H from q) _ _ ⟨G, A, r.put (s' := .o ds.reverse) (o' := .lst xs.reverse) e rfl rfl (show RpA S B G xs.reverse ds.reverse from RpA.rev h5)⟩)
/-! ### x *= e -/
theorem sv_augM {i : Nat} {te : TE} {m : Env → M D} (h : EvD S te m) : SvD S X (tAug i te Tm.ipM) (fun ρ => M.bnd (M.opt ((mask ρ)[i]?.join)) fun d => M.bnd (asI d) fun a => M.bnd (m (mask ρ)) fun e => M.bnd (asI e) fun b => M.bnd (M.req (-(2 ^ 64) < b ∧ b < 2 ^ 64)) fun _ => M.ret (.nx (ρ.set i (some (.f (.int (a * b))))))) := fun B H0 G0 σ H ρ E ⟨G, A, r⟩ q => by
  obtain ⟨d, hd, q⟩ := M.run_opt q
  have e' : (mask ρ)[i]? = some (some d) := by
    cases h1 : (mask ρ)[i]? with
    | none => rw [h1] at hd; cases hd
    | some o => rw [h1] at hd; rw [show o = some d from hd]
  obtain ⟨v, h1, h2⟩ := r.mask.get i d e'
  refine ⟨v, h1, ?_⟩
  cases h2 <;> first
    | exact q.elim
    | (rename_i a
       refine h B σ H G (mask ρ) _ r.ok r.mask ((m (mask ρ)).mono (fun e he v2 H2 G2 k2 c2 r2 => ?_) q)
       cases r2 <;> first
         | exact he.elim
         | (rename_i b
            exact ⟨a, b, rfl, rfl, he.1, (show ∀ σ H, Rs S B H0 G0 σ H (ρ.set i (some (.f (.int (a * b))))) → E.nx σ H from he.2) _ _ ⟨G2, A, (r.step k2 c2).set (.int _) i⟩⟩))
/-! ### t + u -/
def catT : D → D → M D
  | .tup a, .tup b => M.bnd (M.req (a.length + b.length ≤ 100000)) fun _ => M.ret (.tup (a ++ b))
  | _, _ => M.fail
theorem catT_go (a b : List D) : catT (.tup a) (.tup b) = M.bnd (M.req (a.length + b.length ≤ 100000)) fun _ => M.ret (.tup (a ++ b)) := rfl
theorem r_catT : R2D S (rCatA S.K) catT := fun B H G x y d e Q k rx ry h => by
  cases d <;> cases e <;> first
    | exact h.elim
    | (cases rx with
       | tup ha hr =>
         cases ry with
         | tup hb hs =>
           rename_i xs _ ys
           have l1 := hr.length
           have l2 := hs.length
           refine ⟨_, _, _, _, rfl, rfl, sub_tup k.sub ha, sub_tup k.sub hb, by rw [l1, l2]; exact small h.1, fun z => ?_, fun _ z => ?_, fun _ _ p hp => ?_⟩
           · subst z
             cases hr
             exact Rs1.now k h.2 (.tup hb hs)
           · subst z
             cases hs
             have h9 := h.2
             rw [List.append_nil] at h9
             exact Rs1.now k h9 (.tup ha hr)
           · obtain ⟨k2, c2⟩ := k.put hp (.tup (xs ++ ys)) (fun _ z => nomatch z)
             exact (show Rs1 S B H G Q _ from h.2) _ _ _ k2 c2 (.tup (SqT.of upd_same) ((hr.mono c2.ext).append (hs.mono c2.ext))))
theorem op_catAK {Y : Cx} {K : PySem.W.Frag} (h : Y.K = K) : OpR Y (binaryOp .Add) (rCatA K) := by subst h; exact op_catA
/-! ### sorted, of choices -/
def chD (c : List Ks) : D := .tup (c.map tieD)
def srtC : List D → M (List D)
  | [.lst es] => M.bnd (M.choose fun p : List (List Ks) × Nat => es = p.1.map chD ∧ 0 < p.2 ∧ (∀ c ∈ p.1, c.length = p.2 ∧ ∀ k ∈ c, CK k) ∧ p.1.length ≤ 1000) fun p => M.bnd (M.all fun u : List (List Ks) => u.Perm p.1 ∧ u.Pairwise fun a b => cc a ≤ cc b) fun u => M.ret (u.map chD)
  | _ => M.fail
theorem srtC_go (es : List D) : srtC [.lst es] = M.bnd (M.choose fun p : List (List Ks) × Nat => es = p.1.map chD ∧ 0 < p.2 ∧ (∀ c ∈ p.1, c.length = p.2 ∧ ∀ k ∈ c, CK k) ∧ p.1.length ≤ 1000) fun p => M.bnd (M.all fun u : List (List Ks) => u.Perm p.1 ∧ u.Pairwise fun a b => cc a ≤ cc b) fun u => M.ret (u.map chD) := rfl
theorem chs_of {G : Hp} {d : Nat} : ∀ {l : List (List Ks)} {xs : List V}, RpA S B G xs (l.map chD) → (∀ c ∈ l, c.length = d ∧ ∀ k ∈ c, CK k) → ∃ L : List CH, xs = crefs L ∧ (L.map fun p => p.2.map (·.2)) = l ∧ ∀ p ∈ L, ChH S.K G d p
  | [], _, .nil, _ => ⟨[], rfl, rfl, fun p hp => nomatch hp⟩
  | c :: l, _, .cons h r, hc => by
    obtain ⟨L, rfl, rfl, h2⟩ := chs_of r fun x hx => hc x (List.mem_cons_of_mem _ hx)
    cases h with
    | tup ha hr =>
      obtain ⟨ks, rfl, h3, h4⟩ := tks_of hr
      obtain ⟨c1, c2⟩ := hc c (List.mem_cons_self ..)
      refine ⟨(_, ks) :: L, rfl, by rw [List.map_cons, h4], fun p hp => ?_⟩
      rcases List.mem_cons.mp hp with rfl | hp
      · refine ⟨ha, h3, fun q hq => c2 _ ?_, ?_⟩
        · rw [← h4]; exact List.mem_map.mpr ⟨q, hq, rfl⟩
        · have := congrArg List.length h4
          rw [List.length_map] at this
          exact this.trans c1
      · exact h2 p hp
theorem rp_chs {G : Hp} {d : Nat} : ∀ {L : List CH}, (∀ p ∈ L, ChH S.K G d p) → RpA S B G (crefs L) ((L.map fun p => p.2.map (·.2)).map chD)
  | [], _ => .nil
  | p :: L, h => by
    have hp := h p (List.mem_cons_self ..)
    exact .cons (.tup hp.tp (rp_refs hp.key)) (rp_chs fun q hq => h q (List.mem_cons_of_mem _ hq))
theorem r_sortC : RCL S (rSortC S.K) srtC := fun B H G vs ds Q k r h => by
  unfold srtC at h
  split at h
  · obtain ⟨⟨l, d⟩, ⟨rfl, hd, hc, hl⟩, h⟩ := h
    dsimp only at hd hc hl h
    cases r with
    | cons r1 r2 =>
      cases r2
      cases r1 with
      | lst ha hr =>
        obtain ⟨L, rfl, rfl, hL⟩ := chs_of hr hc
        rw [List.length_map] at hl
        have up : ∀ p ∈ L, ChH S.K H d p := fun p hp => ⟨sub_tup k.sub (hL p hp).tp, fun q hq => sub_tup k.sub ((hL p hp).key q hq), (hL p hp).ck, (hL p hp).len⟩
        refine ⟨_, L, d, rfl, SqL.of (k.sub _ _ ha), hl, hd, up, fun L' p pm pw np => ?_⟩
        refine Rs2.lay k (show Rs2 S B H G Q ((L'.map fun p => p.2.map (·.2)).map chD) from h _ ⟨pm.map _, ?_⟩) (rp_chs fun q hq => hL q (pm.mem_iff.mp hq)) np
        rw [List.pairwise_map]
        exact pw
  · exact h.elim
/-! ### a call that tells a new list and does not refuse, as a value -/
def okYD : Ry → M D
  | .ok ds => M.ret (.lst ds)
  | .er _ => M.fail
theorem okYD_go (ds : List D) : okYD (.ok ds) = M.ret (.lst ds) := rfl
theorem ed_callY {f : List D → M Ry} {E : XK} {t : TA} {m : Env → M (List D)} (h : EvA S t m) : EvD S (tCall (spY S f) [] E t) (fun ρ => M.bnd (m ρ) fun l => M.bnd (f l) okYD) := fun B σ H G ρ Q k er q =>
  h B σ H G ρ _ k er ((m ρ).mono (fun l hl vs H1 G1 k1 c1 r1 => ⟨B, G1, l, k1, by rw [List.append_nil]; exact r1, (f l).mono (fun y hy => by
    cases y with
    | er x => exact hy.elim
    | ok ds => exact Rs1.frz k1 (Rs1.after c1 (show Rs1 S B H G Q (.lst ds) from hy))) hl⟩) q)
end Dv
namespace Dv
open PySem PySem.Spec PyProof.Rows L2 RZ Sg Tm Wb
local macro_rules | `(tactic| walk_at "r2") => `(tactic| first | with_reducible exact r_I0 | with_reducible exact r_I | with_reducible exact r_eq | with_reducible exact r_ne | with_reducible exact r_isN | with_reducible exact r_notN | with_reducible exact r_ixL | with_reducible exact r_ixT | with_reducible exact r_ixQ | with_reducible exact r_eqD | with_reducible exact r_neD | with_reducible exact r_inD | with_reducible exact r_notInD | with_reducible exact r_isB | with_reducible exact r_notB)
local macro_rules | `(tactic| walk_at "r2l") => `(tactic| first | with_reducible exact r_cat)
local macro_rules | `(tactic| walk_at "rc") => `(tactic| first | with_reducible exact r_len | with_reducible exact r_all)
local macro_rules | `(tactic| walk_at "rcl") => `(tactic| first | with_reducible exact r_list)
local macro_rules | `(tactic| walk_at "eo") => `(tactic| first | with_reducible exact eo_none | (with_reducible apply eo_some; walk_at "ed"))
local macro_rules | `(tactic| walk_at "ea") => `(tactic| first | with_reducible exact ea_nil | (with_reducible apply ea_star; walk_at "ed"; walk_at "ea") | (with_reducible apply ea_cons; walk_at "ed"; walk_at "ea"))
local macro_rules | `(tactic| walk_at "et") => `(tactic| first
  | with_reducible exact et_yes
  | (with_reducible apply et_test; walk_at "ed") | (with_reducible apply et_B; walk_at "ed") | (with_reducible apply et_not; walk_at "et")
  | (with_reducible apply et_and; walk_at "et"; walk_at "et") | (with_reducible apply et_or; walk_at "et"; walk_at "et"))
local macro_rules | `(tactic| walk_at "eg") => `(tactic| first | with_reducible exact eg_name | (with_reducible apply eg_tup; walk_at "egs"))
local macro_rules | `(tactic| walk_at "egs") => `(tactic| first | with_reducible exact eg_nil | (with_reducible apply eg_cons; walk_at "eg"; walk_at "egs"))
local macro_rules | `(tactic| walk_at "es") => `(tactic| first | with_reducible exact es_name | (with_reducible apply es_tup; walk_at "ess"))
local macro_rules | `(tactic| walk_at "ess") => `(tactic| first | with_reducible exact es_nil | (with_reducible apply es_cons; walk_at "es"; walk_at "ess"))
local macro_rules | `(tactic| walk_at "ei") => `(tactic| first | (with_reducible apply ei_list; walk_at "ed") | (with_reducible apply ei_tup; walk_at "ed") | (with_reducible apply ei_rng1; walk_at "ea") | (with_reducible apply ei_rng2; walk_at "ea") | (with_reducible apply ei_str; walk_at "ed"))
local macro_rules | `(tactic| walk_at "el") => `(tactic| first
  | (with_reducible apply el_lst; walk_at "ea")
  | (focus (with_reducible apply el_lc; rotate_left; walk_at "ei"; walk_at "eg"; walk_at "et"; walk_at "ed"; decide))
  | (with_reducible apply el_op; walk_at "r2l"; walk_at "ed"; walk_at "ed")
  | (with_reducible apply el_cb; walk_at "rcl"; walk_at "ea")
  | (with_reducible apply el_sl; walk_at "ed"; walk_at "eo"; walk_at "eo")
  | (with_reducible apply el_call; walk_at "ea")
  | walk_at "el+"
  | (with_reducible apply el_meth; decide; walk_at "ed"; walk_at "ea"))
local macro_rules | `(tactic| walk_at "ed") => `(tactic| first
  | with_reducible exact ed_var | with_reducible exact ed_c
  | (with_reducible apply ed_op; walk_at "r2"; walk_at "ed"; walk_at "ed")
  | (with_reducible apply ed_call; walk_at "ea")
  | (with_reducible apply ed_callX; walk_at "ea")
  | (with_reducible apply ed_tup; walk_at "ea")
  | (with_reducible apply ed_if; walk_at "et"; walk_at "ed"; walk_at "ed")
  | (with_reducible apply ed_cb; walk_at "rc"; walk_at "ea")
  | (with_reducible apply ed_un r_U; walk_at "ed")
  | (with_reducible apply ed_chain; walk_at "r2"; walk_at "r2"; walk_at "ed"; walk_at "ed"; walk_at "ed")
  | (with_reducible apply ed_andV; walk_at "ed"; walk_at "ed") | (with_reducible apply ed_orV; walk_at "ed"; walk_at "ed")
  | (with_reducible apply ed_meth; decide; walk_at "ed"; walk_at "ea")
  | walk_at "ed+"
  | (with_reducible apply EvL.d; walk_at "el"))
local macro_rules | `(tactic| walk_at "svF") => `(tactic| first
  | (with_reducible apply sv_seq; walk_at "svF"; walk_at "svF")
  | (with_reducible apply sv_asg; walk_at "ed")
  | (with_reducible apply sv_if; walk_at "et"; walk_at "svF"; walk_at "svF")
  | (with_reducible apply sv_for; walk_at "ei"; walk_at "es"; walk_at "svF")
  | walk_at "sv")
local macro_rules | `(tactic| walk_at "sv") => `(tactic| first
  | with_reducible exact sv_next | with_reducible exact sv_break | with_reducible exact sv_cont | with_reducible exact sv_never | with_reducible exact sv_retN
  | (with_reducible apply sv_seq; walk_at "sv"; walk_at "sv")
  | (with_reducible apply sv_asgL; walk_at "el")
  | (with_reducible apply sv_asg; walk_at "ed")
  | (with_reducible apply sv_if; walk_at "et"; walk_at "sv"; walk_at "sv")
  | (with_reducible apply sv_for; walk_at "ei"; walk_at "es"; walk_at "sv")
  | (with_reducible apply sv_par; walk_at "ea")
  | (with_reducible apply sv_app; walk_at "ed")
  | (with_reducible apply sv_ret; walk_at "ed")
  | (with_reducible apply sv_asgT; walk_at "ed"; walk_at "es")
  | (with_reducible apply sv_drop; walk_at "ed"))
local macro_rules | `(tactic| walk_at "rc") => `(tactic| first | with_reducible exact r_len | with_reducible exact r_all | with_reducible exact r_max | with_reducible exact r_min)
local macro_rules | `(tactic| walk_at "rcl") => `(tactic| first | with_reducible exact r_list | with_reducible exact r_sort)
local macro_rules | `(tactic| walk_at "el+") => `(tactic| (with_reducible apply el_listRg; walk_at "ed"))
local macro_rules | `(tactic| walk_at "edm") => `(tactic| first | (with_reducible apply ed_index; walk_at "ed"; walk_at "ed") | (with_reducible apply ed_dget2; walk_at "ed"; walk_at "ed"; walk_at "ed") | with_reducible exact ed_disp2 | (with_reducible apply ed_chain; walk_at "r2"; walk_at "r2"; walk_at "ed"; walk_at "ed"; walk_at "ed"))
local macro_rules | `(tactic| walk_at "ed+") => `(tactic| walk_at "edm")
local macro_rules | `(tactic| walk_at "ex") => `(tactic| first | (with_reducible apply ex_callI; walk_at "ea") | (with_reducible apply ex_call; walk_at "ea") | (with_reducible apply ex_opL; walk_at "r2"; walk_at "ex"; walk_at "ed"))
local macro_rules | `(tactic| walk_at "svM") => `(tactic| first
  | (with_reducible apply sv_seq; walk_at "svM"; walk_at "svM")
  | (with_reducible apply sv_ins; walk_at "ed")
  | (with_reducible apply sv_asg; walk_at "ed")
  | (with_reducible apply sv_asgX; walk_at "ex")
  | (with_reducible apply sv_retX; walk_at "ex")
  | (with_reducible apply sv_if; walk_at "et"; walk_at "svM"; walk_at "svM")
  | (with_reducible apply sv_for; walk_at "ei"; walk_at "es"; walk_at "svM")
  | walk_at "sv")
local macro_rules | `(tactic| walk_at "rc") => `(tactic| first | with_reducible exact r_len | with_reducible exact r_lenK | with_reducible exact r_all | with_reducible exact r_max | with_reducible exact r_min | with_reducible exact r_max1 | with_reducible exact r_min1 | with_reducible exact r_int | with_reducible exact r_tup)
local macro_rules | `(tactic| walk_at "ei") => `(tactic| first | (with_reducible apply ei_list; walk_at "ed") | (with_reducible apply ei_tup; walk_at "ed") | (with_reducible apply ei_rng1; walk_at "ea") | (with_reducible apply ei_rng2; walk_at "ea") | (with_reducible apply ei_str; walk_at "ed") | (with_reducible apply ei_en; walk_at "ea"))
local macro_rules | `(tactic| walk_at "edk") => `(tactic| first | (with_reducible apply ed_mk2; walk_at "ea"; walk_at "ea") | (with_reducible apply ed_dget; walk_at "ed"; walk_at "ed") | (with_reducible apply ed_din; walk_at "ed"; walk_at "ed") | (with_reducible apply ed_dnin; walk_at "ed"; walk_at "ed") | walk_at "edm")
local macro_rules | `(tactic| walk_at "ed+") => `(tactic| walk_at "edk")
local macro_rules | `(tactic| walk_at "ek") => `(tactic| first | with_reducible exact ek_new | (focus (with_reducible apply ek_dc; rotate_left; walk_at "ei"; walk_at "eg"; walk_at "et"; walk_at "ed"; walk_at "ed"; decide)))
local macro_rules | `(tactic| walk_at "svN") => `(tactic| first
  | (with_reducible apply sv_seq; walk_at "svN"; walk_at "svN")
  | (with_reducible apply sv_ins; walk_at "ed")
  | (with_reducible apply sv_asgK; walk_at "ek")
  | (with_reducible apply sv_asg; walk_at "ed")
  | (with_reducible apply sv_asgX; walk_at "ex")
  | (with_reducible apply sv_dropX; walk_at "ex")
  | (with_reducible apply sv_retX; walk_at "ex")
  | (with_reducible apply sv_dput; walk_at "ed"; walk_at "ed")
  | (with_reducible apply sv_raise rfl; decide; walk_at "ed")
  | (with_reducible apply sv_if; walk_at "et"; walk_at "svN"; walk_at "svN")
  | (with_reducible apply sv_for; walk_at "ei"; walk_at "es"; walk_at "svN")
  | walk_at "sv")
/-- how many choices rows of ties leave -/
def prodL : List (List Ks) → Int
  | [] => 1
  | r :: l => (r.length : Int) * prodL l
/-- one of each row -/
def chooseL (acc : List (List Ks)) : List (List Ks) → List (List Ks)
  | [] => acc
  | r :: l => chooseL (acc.flatMap fun c => r.map fun t => c ++ [t]) l
abbrev rowsL (n : Int) (A M : List Ks) : List (List Ks) := (ptsL n).map fun p => tiesAt A M p
theorem prodL_snoc : ∀ (l : List (List Ks)) (r : List Ks), prodL (l ++ [r]) = prodL l * (r.length : Int)
  | [], r => by show (r.length : Int) * 1 = 1 * (r.length : Int); rw [Int.mul_one, Int.one_mul]
  | a :: l, r => by
    show (a.length : Int) * prodL (l ++ [r]) = (a.length : Int) * prodL l * (r.length : Int)
    rw [prodL_snoc l r, Int.mul_assoc]
theorem chooseL_snoc : ∀ (l : List (List Ks)) (acc : List (List Ks)) (r : List Ks), chooseL acc (l ++ [r]) = (chooseL acc l).flatMap fun c => r.map fun t => c ++ [t]
  | [], _, _ => rfl
  | a :: l, acc, r => chooseL_snoc l _ r
theorem flat_len (acc : List (List Ks)) (r : List Ks) : (acc.flatMap fun c => r.map fun t => c ++ [t]).length = acc.length * r.length := by
  induction acc with
  | nil => simp
  | cons c acc ih => rw [List.flatMap_cons, List.length_append, ih, List.length_map, List.length_cons, Nat.add_mul, Nat.one_mul, Nat.add_comm]
theorem chooseL_len : ∀ (l : List (List Ks)), ((chooseL [[]] l).length : Int) = prodL l := fun l => by
  have key : ∀ (l : List (List Ks)) (acc : List (List Ks)), ((chooseL acc l).length : Int) = (acc.length : Int) * prodL l := by
    intro l
    induction l with
    | nil => intro acc; show (acc.length : Int) = acc.length * 1; rw [Int.mul_one]
    | cons r l ih =>
      intro acc
      show ((chooseL _ l).length : Int) = (acc.length : Int) * ((r.length : Int) * prodL l)
      rw [ih, flat_len, Int.natCast_mul, Int.mul_assoc]
  rw [key]
  show (1 : Int) * _ = _
  rw [Int.one_mul]
theorem choose_mem {P : Ks → Prop} : ∀ {l : List (List Ks)} {acc : List (List Ks)} {c : List Ks}, (∀ r ∈ l, ∀ k ∈ r, P k) → c ∈ chooseL acc l → ∃ c0 ∈ acc, ∃ d, c = c0 ++ d ∧ d.length = l.length ∧ ∀ k ∈ d, P k
  | [], acc, c, _, h => ⟨c, h, [], (List.append_nil c).symm, rfl, fun k hk => nomatch hk⟩
  | r :: l, acc, c, hP, h => by
    obtain ⟨c1, h1, d, rfl, hl, hd⟩ := choose_mem (l := l) (fun r hr => hP r (List.mem_cons_of_mem _ hr)) h
    obtain ⟨c0, h0, h2⟩ := List.mem_flatMap.mp h1
    obtain ⟨t, ht, rfl⟩ := List.mem_map.mp h2
    refine ⟨c0, h0, t :: d, by rw [List.append_assoc]; rfl, by rw [List.length_cons, List.length_cons, hl], fun k hk => ?_⟩
    rcases List.mem_cons.mp hk with rfl | hk
    · exact hP r (List.mem_cons_self ..) _ ht
    · exact hd k hk
theorem rows_get {n : Int} {A M : List Ks} {i : Nat} (h : i < (rowsL n A M).length) : (rowsL n A M)[i] = tiesAt A M (i : Int) := by
  simp only [rowsL, ptsL, List.getElem_map, List.getElem_range]
theorem rows_lD {n : Int} {A M : List Ks} : ((ptsL n).map fun p => lD (tiesAt A M p)) = (rowsL n A M).map lD := by simp only [rowsL, ptsL, List.map_map]; rfl
theorem take_succ' {α : Type} {l : List α} {i : Nat} (h : i < l.length) : l.take (i + 1) = l.take i ++ [l[i]] := by
  rw [List.take_add_one, List.getElem?_eq_getElem h]
  rfl
theorem tl_len {n p : Int} {A M : List Ks} (w : WebK n A M) : (tiesAt A M p).length ≤ 200 := by
  have la := w.la
  have lm := w.lm
  have l1 : (A.filter (touch p)).length ≤ A.length := List.length_filter_le ..
  have l2 : (M.filter (touch p)).length ≤ M.length := List.length_filter_le ..
  unfold tiesAt
  rw [List.length_append]
  omega
theorem prod_le {l : List (List Ks)} (h : ∀ r ∈ l, 1 ≤ r.length) : 1 ≤ prodL l ∧ ∀ i, prodL (l.take i) ≤ prodL l := by
  induction l with
  | nil => exact ⟨Int.le_refl _, fun i => by rw [List.take_nil]; exact Int.le_refl _⟩
  | cons r l ih =>
    obtain ⟨a, b⟩ := ih fun x hx => h x (List.mem_cons_of_mem _ hx)
    have hr : 1 ≤ (r.length : Int) := by have := h r (List.mem_cons_self ..); omega
    refine ⟨?_, fun i => ?_⟩
    · show 1 ≤ (r.length : Int) * prodL l
      have := Int.mul_le_mul_of_nonneg_right hr (show 0 ≤ prodL l by omega)
      omega
    · cases i with
      | zero =>
        show 1 ≤ (r.length : Int) * prodL l
        have := Int.mul_le_mul_of_nonneg_right hr (show 0 ≤ prodL l by omega)
        omega
      | succ i =>
        show (r.length : Int) * prodL (l.take i) ≤ (r.length : Int) * prodL l
        exact Int.mul_le_mul_of_nonneg_left (b i) (by omega)
section
variable {P : Program} {w : World} {K : PySem.W.Frag} {mg : Str → Option Value} {base : Heap} {C : Addr} {T : List (Addr × Str)} {cls : Str → Addr}
abbrev sRGW : Stmt := topS 26
/-- what is told of a tree whose ward is not too great -/
def grM {α : Type} (f : Int → List Ks → List Ks → α) (er : Exn → α) : List D → M α
  | [.web n As Ms] => M.bnd (M.req (WebK n As Ms ∧ n ≤ 81)) fun _ => M.bnd (M.all fun b : Bool => b = true ↔ TreeP n As) fun b => if b = true then (if prodL (rowsL n As Ms) > 64 then M.ret (er ⟨"TooMany", "bound", .int 64⟩) else M.ret (f n As Ms)) else M.ret (er ⟨"NotTree", "word", .non⟩)
  | _ => M.fail
def rgwM : List D → M Rx := grM (fun _ _ _ => .ok .non) .er
theorem len_gr {α : Type} {f : Int → List Ks → List Ks → α} {er : Exn → α} {ds : List D} {Q : α → Prop} (h : (grM f er ds).run Q) : ds.length = 1 := by
  unfold grM at h
  split at h
  · rfl
  · exact h.elim
theorem gr_go {α : Type} (f : Int → List Ks → List Ks → α) (er : Exn → α) (n : Int) (As Ms : List Ks) : grM f er [.web n As Ms] = M.bnd (M.req (WebK n As Ms ∧ n ≤ 81)) fun _ => M.bnd (M.all fun b : Bool => b = true ↔ TreeP n As) fun b => if b = true then (if prodL (rowsL n As Ms) > 64 then M.ret (er ⟨"TooMany", "bound", .int 64⟩) else M.ret (f n As Ms)) else M.ret (er ⟨"NotTree", "word", .non⟩) := rfl
local macro_rules | `(tactic| walk_at "svG") => `(tactic| first
  | (with_reducible apply sv_seq; walk_at "svG"; walk_at "svG")
  | (with_reducible apply sv_dropX; walk_at "ex")
  | (with_reducible apply sv_augM; walk_at "ed")
  | (with_reducible apply sv_asg; walk_at "ed")
  | (with_reducible apply sv_raise rfl; decide; walk_at "ed")
  | (with_reducible apply sv_if; walk_at "et"; walk_at "svG"; walk_at "svG")
  | (with_reducible apply sv_for; walk_at "ei"; walk_at "es"; walk_at "svG")
  | walk_at "sv")
theorem len_rgw {ds : List D} {Q : Rx → Prop} (h : (rgwM ds).run Q) : ds.length = 1 := len_gr h
abbrev N_rgw : List Str := ["tree", "many", "row"]
theorem sc_rgw : FnScope N_rgw ["tree"] (defScope sRGW) := ⟨rfl, rfl, rfl, by decide +kernel, rfl, by decide +kernel, by decide +kernel⟩
theorem ok_rgw {f fN fT fE : Addr} {fd dN dT dE : FuncData} {tk : Tok} (F : Fun K "refuse_great_ward" "refuse_great_ward" sRGW f fd) (b : Bq mg) (gM : mg "MOST_WARD" = some (.int 64 tk)) (oN : DfX P w K mg base 7 "refuse_no_tree" ["web"] (spX (mkS K C T cls) rntM) fN dN) (oT : Df P w K mg base 2 "tie_rows" ["web"] (spL (mkS K C T cls) trM) fT dT) (e : EDf P w K mg base "TooMany" "bound" (cls "TooMany") fE dE) : FnOk P w K mg base (L2.CX P w) 9 f fd ["tree"] (spX (mkS K C T cls) rgwM) := by
  refine F.okX sc_rgw (fun vs H Q E h => ?_) (fun cdv A outer s H vs Q E hr h => ?_)
  · obtain ⟨B, G, ds, _, r, h⟩ := h
    rw [r.length]
    exact len_rgw h
  · have hu5 : (A.deeper (envOfC "refuse_great_ward" (defScope sRGW) s.heap.objs.size f cdv)).units + 65 < cLine := by
      have := hr.un
      omega
    have hu : (A.deeper (envOfC "refuse_great_ward" (defScope sRGW) s.heap.objs.size f cdv)).units + 64 < cLine := by omega
    have hu1 : (A.deeper (envOfC "refuse_great_ward" (defScope sRGW) s.heap.objs.size f cdv)).units + 1 < cLine := by omega
    refine ⟨_, (pss_cons (ps_expr (pe_call oN.ok (hr.mono (by decide)) (by rfl) oN.gl oN.kp oN.bd .nil (passE rfl rfl rfl rfl) (pa_cons (pv 0) pa_nil)))
      (pss_cons (ps_set (i := 1) sc_rgw.nd rfl (.inl rfl) pe_int)
      (pss_cons (ps_for (passes_of rfl) rfl (di_list (K := K) rfl (pe_call oT.ok (hr.mono (by decide)) (by rfl) oT.gl oT.kp oT.bd .nil pass0 (pa_cons (pv 0) pa_nil))) (pg_name (i := 2) sc_rgw.nd rfl (.inl rfl))
      (pss_one (ps_aug (i := 1) sc_rgw.nd rfl (.inl rfl) (pe_callB (dv_len (K := K) rfl) (by rfl) b.len PySem.boot_len (pa_cons (pv 2) pa_nil)) ip_mul)))
      (pss_one (ps_if (pt_cmpR op_gt (pv 1) (pe_glob (v := .int 64) (by rfl) gM ⟨_, rfl⟩) (nomark _)) (pss_one (ps_raise rfl (takes_of rfl rfl rfl rfl) (pmk_oex e.er.oe e.er.iC e.er.tI e.ok (hr.mono (by decide)) e.bd .nil pass0 (by rfl) e.gl (pa_cons (pe_glob (v := .int 64) (by rfl) gM ⟨_, rfl⟩) pa_nil)))) pss_nil))))), ?_⟩
    refine run_X (X := E) (S := mkS K C T cls) (N := N_rgw) (by walk_at "svG") ?_ h
    intro ds Q hq
    unfold rgwM grM at hq
    split at hq
    · rename_i n As Ms
      obtain ⟨⟨w, hn⟩, hq⟩ := hq
      have e : startE N_rgw.length [.web n As Ms] = [some (.f (.web n As Ms)), none, none] := rfl
      rw [e]
      simp only [run_bnd, run_ret, run_opt, run_req, run_all, run_choose, run_ite, then_nx, then_rt, then_rl, then_er, then_ct, then_bk, outD_rt, outD_rl, outD_nx, outL_rl, outX_rt, outX_rl, outX_nx, outX_er, mask_nil, mask_cons, mk0_f, mk0_o, mk0_od, mk0_ot, mk0_n, peek_nil, peek_cons, pk_f, pk_o, pk_od, pk_ot, pk_n, dOf_int, dOf_bl, dOf_str, dOf_non, opI0_int, opI_int, unI_int, asB_bl, asI_int, asL_lst, asT_tup, asW_web, eqS_int, eqS_str, ixL_lst, ixT_tup, ixQ_lst, ixQ_tup, lenD_lst, lenD_tup, listD_lst, listD_tup, catD_lst, rng1_int, rng2_int, sName_go, sTup_go, sCons_go, sNil_go, bTup_go, bCons_go, bNil_go, two_go, List.set_cons_zero, List.set_cons_succ, List.getElem?_cons_zero, List.getElem?_cons_succ, Option.join_some, atI_0, atI_1, atI_2, decide_eq_true_eq, wipeE, List.map_cons, List.map_nil, step_nx, step_ct, step_bk, step_rt, step_rl, step_er, vOf_int, vOf_str]
      refine ⟨⟨w, hn⟩, fun b hb => ?_⟩
      have hq := hq b hb
      cases b with
      | false =>
        simp only [Bool.false_eq_true, if_false, ouX_er, outX_er, run_bnd, run_ret, run_opt, run_req, run_all, run_choose, run_ite, then_nx, then_rt, then_rl, then_er, then_ct, then_bk, outD_rt, outD_rl, outD_nx, outL_rl, outX_rt, outX_rl, outX_nx, outX_er, mask_nil, mask_cons, mk0_f, mk0_o, mk0_od, mk0_ot, mk0_n, peek_nil, peek_cons, pk_f, pk_o, pk_od, pk_ot, pk_n, dOf_int, dOf_bl, dOf_str, dOf_non, opI0_int, opI_int, unI_int, asB_bl, asI_int, asL_lst, asT_tup, asW_web, eqS_int, eqS_str, ixL_lst, ixT_tup, ixQ_lst, ixQ_tup, lenD_lst, lenD_tup, listD_lst, listD_tup, catD_lst, rng1_int, rng2_int, sName_go, sTup_go, sCons_go, sNil_go, bTup_go, bCons_go, bNil_go, two_go, List.set_cons_zero, List.set_cons_succ, List.getElem?_cons_zero, List.getElem?_cons_succ, Option.join_some, atI_0, atI_1, atI_2, decide_eq_true_eq, wipeE, List.map_cons, List.map_nil, step_nx, step_ct, step_bk, step_rt, step_rl, step_er, vOf_int, vOf_str] at hq ⊢
        exact hq
      | true =>
        have tr := hb.mp rfl
        simp only [if_true, ouX_ok, tr_go, rows_lD, run_bnd, run_ret, run_opt, run_req, run_all, run_choose, run_ite, then_nx, then_rt, then_rl, then_er, then_ct, then_bk, outD_rt, outD_rl, outD_nx, outL_rl, outX_rt, outX_rl, outX_nx, outX_er, mask_nil, mask_cons, mk0_f, mk0_o, mk0_od, mk0_ot, mk0_n, peek_nil, peek_cons, pk_f, pk_o, pk_od, pk_ot, pk_n, dOf_int, dOf_bl, dOf_str, dOf_non, opI0_int, opI_int, unI_int, asB_bl, asI_int, asL_lst, asT_tup, asW_web, eqS_int, eqS_str, ixL_lst, ixT_tup, ixQ_lst, ixQ_tup, lenD_lst, lenD_tup, listD_lst, listD_tup, catD_lst, rng1_int, rng2_int, sName_go, sTup_go, sCons_go, sNil_go, bTup_go, bCons_go, bNil_go, two_go, List.set_cons_zero, List.set_cons_succ, List.getElem?_cons_zero, List.getElem?_cons_succ, Option.join_some, atI_0, atI_1, atI_2, decide_eq_true_eq, wipeE, List.map_cons, List.map_nil, step_nx, step_ct, step_bk, step_rt, step_rl, step_er, vOf_int, vOf_str] at hq ⊢
        refine loop_run (fun i ρ => ∃ y, ρ = [some (.f (.web n As Ms)), some (.f (.int (prodL ((rowsL n As Ms).take i)))), y]) ⟨_, rfl⟩ ?_ ?_
        · rintro i hi ρ ⟨y, rfl⟩
          have hi' := hi
          rw [List.length_map] at hi
          have lt := tl_len w (p := (i : Int))
          have eg : ((rowsL n As Ms).map lD)[i]'hi' = lD (tiesAt As Ms (i : Int)) := by rw [List.getElem_map, rows_get]
          simp only [eg, lD, run_bnd, run_ret, run_opt, run_req, run_all, run_choose, run_ite, then_nx, then_rt, then_rl, then_er, then_ct, then_bk, outD_rt, outD_rl, outD_nx, outL_rl, outX_rt, outX_rl, outX_nx, outX_er, mask_nil, mask_cons, mk0_f, mk0_o, mk0_od, mk0_ot, mk0_n, peek_nil, peek_cons, pk_f, pk_o, pk_od, pk_ot, pk_n, dOf_int, dOf_bl, dOf_str, dOf_non, opI0_int, opI_int, unI_int, asB_bl, asI_int, asL_lst, asT_tup, asW_web, eqS_int, eqS_str, ixL_lst, ixT_tup, ixQ_lst, ixQ_tup, lenD_lst, lenD_tup, listD_lst, listD_tup, catD_lst, rng1_int, rng2_int, sName_go, sTup_go, sCons_go, sNil_go, bTup_go, bCons_go, bNil_go, two_go, List.set_cons_zero, List.set_cons_succ, List.getElem?_cons_zero, List.getElem?_cons_succ, Option.join_some, atI_0, atI_1, atI_2, decide_eq_true_eq, wipeE, List.map_cons, List.map_nil, step_nx, step_ct, step_bk, step_rt, step_rl, step_er, vOf_int, vOf_str, List.length_map]
          refine ⟨⟨by omega, by omega⟩, some (.f (.lst ((tiesAt As Ms (i : Int)).map tieD))), ?_⟩
          rw [take_succ' hi, prodL_snoc, rows_get]
        · rintro ρ ⟨y, rfl⟩
          rw [List.length_map, List.take_length]
          simp only [run_bnd, run_ret, run_opt, run_req, run_all, run_choose, run_ite, then_nx, then_rt, then_rl, then_er, then_ct, then_bk, outD_rt, outD_rl, outD_nx, outL_rl, outX_rt, outX_rl, outX_nx, outX_er, mask_nil, mask_cons, mk0_f, mk0_o, mk0_od, mk0_ot, mk0_n, peek_nil, peek_cons, pk_f, pk_o, pk_od, pk_ot, pk_n, dOf_int, dOf_bl, dOf_str, dOf_non, opI0_int, opI_int, unI_int, asB_bl, asI_int, asL_lst, asT_tup, asW_web, eqS_int, eqS_str, ixL_lst, ixT_tup, ixQ_lst, ixQ_tup, lenD_lst, lenD_tup, listD_lst, listD_tup, catD_lst, rng1_int, rng2_int, sName_go, sTup_go, sCons_go, sNil_go, bTup_go, bCons_go, bNil_go, two_go, List.set_cons_zero, List.set_cons_succ, List.getElem?_cons_zero, List.getElem?_cons_succ, Option.join_some, atI_0, atI_1, atI_2, decide_eq_true_eq, wipeE, List.map_cons, List.map_nil, step_nx, step_ct, step_bk, step_rt, step_rl, step_er, vOf_int, vOf_str]
          by_cases h : prodL (rowsL n As Ms) > 64
          · rw [if_pos h] at hq
            rw [if_pos h]
            exact hq
          · rw [if_neg h] at hq
            rw [if_neg h]
            exact hq
    · exact hq.elim
abbrev sChoices : Stmt := topS 25
def chsM : List D → M Ry := grM (fun n As Ms => .ok ((chooseL [[]] (rowsL n As Ms)).map chD)) .er
theorem len_choices {ds : List D} {Q : Ry → Prop} (h : (chsM ds).run Q) : ds.length = 1 := len_gr h
theorem conn_out {A : List Ks} {x y : Int} (h : Conn A x y) : y = x ∨ ∃ z, Adj A x z := by
  induction h with
  | rf => exact .inl rfl
  | @st y z c a ih =>
    rcases ih with e | e
    · subst e; exact .inr ⟨z, a⟩
    · exact .inr e
theorem adj_tie {A M : List Ks} {x y : Int} (h : Adj A x y) : 1 ≤ (tiesAt A M x).length := by
  obtain ⟨c, h⟩ := h
  have key : ∃ k ∈ A, touch x k = true := by
    rcases h with h | h
    · exact ⟨_, h, by show (decide (x = x) || decide (y = x)) = true; simp⟩
    · exact ⟨_, h, by show (decide (y = x) || decide (x = x)) = true; simp⟩
  obtain ⟨k, hk, ht⟩ := key
  exact List.length_pos_of_mem (List.mem_append_left _ (List.mem_filter.mpr ⟨hk, ht⟩))
theorem part_le {n : Int} {A M : List Ks} (t : TreeP n A) (hp : prodL (rowsL n A M) ≤ 64) {i : Nat} (hi : i < (rowsL n A M).length) : prodL ((rowsL n A M).take i) ≤ 64 := by
  have hl : (rowsL n A M).length = n.toNat := by simp only [rowsL, ptsL, List.length_map, List.length_range]
  by_cases h1 : n ≤ 1
  · obtain rfl : i = 0 := by omega
    show (1 : Int) ≤ 64
    decide
  · refine Int.le_trans ((prod_le fun r hr => ?_).2 i) hp
    obtain ⟨j, hj, rfl⟩ := List.getElem_of_mem hr
    rw [rows_get]
    rw [hl] at hj
    by_cases h0 : j = 0
    · subst h0
      rcases conn_out (t.2 1 (by omega)) with e | ⟨z, e⟩
      · exact absurd e (by decide)
      · exact adj_tie e
    · have c := t.2 (j : Int) (by omega)
      generalize hx : (j : Int) = x at c ⊢
      cases c with
      | rf => omega
      | st _ a => exact adj_tie a.symm
theorem choose_bd {n : Int} {A M : List Ks} (t : TreeP n A) (hp : prodL (rowsL n A M) ≤ 64) {i : Nat} (hi : i < (rowsL n A M).length) : (chooseL [[]] ((rowsL n A M).take i)).length ≤ 64 := by
  have h1 := part_le t hp hi
  have h2 := chooseL_len ((rowsL n A M).take i)
  omega
theorem chD_go (c : List Ks) : chD c = .tup (c.map tieD) := rfl
local macro_rules | `(tactic| walk_at "el2") => `(tactic| (focus (with_reducible apply el_lc2; rotate_left; rotate_left; walk_at "ei"; walk_at "eg"; walk_at "et"; walk_at "ei"; walk_at "eg"; walk_at "et"; walk_at "ed"; decide; decide)))
local macro_rules | `(tactic| walk_at "svC") => `(tactic| first
  | (with_reducible apply sv_seq; walk_at "svC"; walk_at "svC")
  | (with_reducible apply sv_dropX; walk_at "ex")
  | (focus (with_reducible apply sv_frz (i := 1); with_reducible apply sv_asgL; walk_at "el2"))
  | (with_reducible apply sv_asgL; walk_at "el")
  | (with_reducible apply sv_for; walk_at "ei"; walk_at "es"; walk_at "svC")
  | with_reducible exact sv_retV
  | walk_at "sv")
abbrev N_choices : List Str := ["tree", "told", "row", "choice", "tie"]
theorem sc_choices : FnScope N_choices ["tree"] (defScope sChoices) := ⟨rfl, rfl, rfl, by decide +kernel, rfl, by decide +kernel, by decide +kernel⟩
theorem ok_choices {f fG fT : Addr} {fd dG dT : FuncData} (F : Fun K "choices" "choices" sChoices f fd) (b : Bq mg) (oG : DfX P w K mg base 9 "refuse_great_ward" ["tree"] (spX (mkS K C T cls) rgwM) fG dG) (oT : Df P w K mg base 2 "tie_rows" ["web"] (spL (mkS K C T cls) trM) fT dT) : FnOk P w K mg base (L2.CX P w) 11 f fd ["tree"] (spY (mkS K C T cls) chsM) := by
  refine F.okX sc_choices (fun vs H Q E h => ?_) (fun cdv A outer s H vs Q E hr h => ?_)
  · obtain ⟨B, G, ds, _, r, h⟩ := h
    rw [r.length]
    exact len_choices h
  · refine ⟨_, (pss_cons (ps_expr (pe_call oG.ok (hr.mono (by decide)) (by rfl) oG.gl oG.kp oG.bd .nil (passE rfl rfl rfl rfl) (pa_cons (pv 0) pa_nil)))
      (pss_cons (ps_set (i := 1) sc_choices.nd rfl (.inl rfl) (pe_lst (pa_cons (pe_tup pa_nil) pa_nil)))
      (pss_cons (ps_for (passes_of rfl) rfl (di_list (K := K) rfl (pe_call oT.ok (hr.mono (by decide)) (by rfl) oT.gl oT.kp oT.bd .nil pass0 (pa_cons (pv 0) pa_nil))) (pg_name (i := 2) sc_choices.nd rfl (.inr rfl))
      (pss_one (ps_setLc2 (i := 1) (own := [("choice", 3), ("tie", 4)]) (vs1 := [4]) (g := gName 3) (tt := tYes) (g1 := gName 4) (tt1 := tYes) rfl sc_choices.nd rfl rfl (sw_true rfl rfl rfl (by decide +kernel)) (di_list (K := K) rfl (pv 1)) (blkOk_by (N := N_choices) (sc := defScope sChoices) (by decide +kernel)) (by decide) (fun _ _ _ _ _ => (pg_name (i := 3) sc_choices.nd rfl (.inl rfl))) (fun _ _ _ _ _ => pts_nil) (fun _ _ _ _ _ => (di_list (K := K) rfl (pv 2))) (fun _ _ _ _ _ => (pg_name (i := 4) sc_choices.nd rfl (.inl rfl))) (fun _ _ _ _ _ => pts_nil) (fun _ _ _ _ _ => (pe_tup (da_star (K := K) rfl (pv 3) (pa_cons (pv 4) pa_nil)))))))
      (pss_one (ps_ret (pv 1)))))), ?_⟩
    refine run_Y (X := E) (S := mkS K C T cls) (N := N_choices) (by walk_at "svC") ?_ h
    intro ds Q hq
    unfold chsM grM at hq
    split at hq
    · rename_i n As Ms
      have e : startE N_choices.length [.web n As Ms] = [some (.f (.web n As Ms)), none, none, none, none] := rfl
      rw [e]
      unfold rgwM
      simp only [gr_go, run_bnd, run_ret, run_opt, run_req, run_all, run_choose, run_ite, then_nx, then_rt, then_rl, then_er, then_ct, then_bk, outD_rt, outD_rl, outD_nx, outL_rl, outX_rt, outX_rl, outX_nx, outX_er, mask_nil, mask_cons, mk0_f, mk0_o, mk0_od, mk0_ot, mk0_n, peek_nil, peek_cons, pk_f, pk_o, pk_od, pk_ot, pk_n, dOf_int, dOf_bl, dOf_str, dOf_non, opI0_int, opI_int, unI_int, asB_bl, asI_int, asL_lst, asT_tup, asW_web, eqS_int, eqS_str, ixL_lst, ixT_tup, ixQ_lst, ixQ_tup, lenD_lst, lenD_tup, listD_lst, listD_tup, catD_lst, rng1_int, rng2_int, sName_go, sTup_go, sCons_go, sNil_go, bTup_go, bCons_go, bNil_go, two_go, List.set_cons_zero, List.set_cons_succ, List.getElem?_cons_zero, List.getElem?_cons_succ, Option.join_some, atI_0, atI_1, atI_2, decide_eq_true_eq, wipeE, List.map_cons, List.map_nil, step_nx, step_ct, step_bk, step_rt, step_rl, step_er, vOf_int, vOf_str]
      obtain ⟨⟨w, hn⟩, hq⟩ := hq
      refine ⟨⟨w, hn⟩, fun b hb => ?_⟩
      have hq := hq b hb
      cases b with
      | false =>
        simp only [Bool.false_eq_true, if_false, ouX_er, outY_er, run_bnd, run_ret, run_opt, run_req, run_all, run_choose, run_ite, then_nx, then_rt, then_rl, then_er, then_ct, then_bk, outD_rt, outD_rl, outD_nx, outL_rl, outX_rt, outX_rl, outX_nx, outX_er, mask_nil, mask_cons, mk0_f, mk0_o, mk0_od, mk0_ot, mk0_n, peek_nil, peek_cons, pk_f, pk_o, pk_od, pk_ot, pk_n, dOf_int, dOf_bl, dOf_str, dOf_non, opI0_int, opI_int, unI_int, asB_bl, asI_int, asL_lst, asT_tup, asW_web, eqS_int, eqS_str, ixL_lst, ixT_tup, ixQ_lst, ixQ_tup, lenD_lst, lenD_tup, listD_lst, listD_tup, catD_lst, rng1_int, rng2_int, sName_go, sTup_go, sCons_go, sNil_go, bTup_go, bCons_go, bNil_go, two_go, List.set_cons_zero, List.set_cons_succ, List.getElem?_cons_zero, List.getElem?_cons_succ, Option.join_some, atI_0, atI_1, atI_2, decide_eq_true_eq, wipeE, List.map_cons, List.map_nil, step_nx, step_ct, step_bk, step_rt, step_rl, step_er, vOf_int, vOf_str] at hq ⊢
        exact hq
      | true =>
        have tr := hb.mp rfl
        by_cases hp : prodL (rowsL n As Ms) > 64
        · simp only [if_true, if_pos hp, ouX_er, outY_er, run_bnd, run_ret, run_opt, run_req, run_all, run_choose, run_ite, then_nx, then_rt, then_rl, then_er, then_ct, then_bk, outD_rt, outD_rl, outD_nx, outL_rl, outX_rt, outX_rl, outX_nx, outX_er, mask_nil, mask_cons, mk0_f, mk0_o, mk0_od, mk0_ot, mk0_n, peek_nil, peek_cons, pk_f, pk_o, pk_od, pk_ot, pk_n, dOf_int, dOf_bl, dOf_str, dOf_non, opI0_int, opI_int, unI_int, asB_bl, asI_int, asL_lst, asT_tup, asW_web, eqS_int, eqS_str, ixL_lst, ixT_tup, ixQ_lst, ixQ_tup, lenD_lst, lenD_tup, listD_lst, listD_tup, catD_lst, rng1_int, rng2_int, sName_go, sTup_go, sCons_go, sNil_go, bTup_go, bCons_go, bNil_go, two_go, List.set_cons_zero, List.set_cons_succ, List.getElem?_cons_zero, List.getElem?_cons_succ, Option.join_some, atI_0, atI_1, atI_2, decide_eq_true_eq, wipeE, List.map_cons, List.map_nil, step_nx, step_ct, step_bk, step_rt, step_rl, step_er, vOf_int, vOf_str] at hq ⊢
          exact hq
        · simp only [if_true, if_neg hp, ouX_ok, tr_go, rows_lD, run_bnd, run_ret, run_opt, run_req, run_all, run_choose, run_ite, then_nx, then_rt, then_rl, then_er, then_ct, then_bk, outD_rt, outD_rl, outD_nx, outL_rl, outX_rt, outX_rl, outX_nx, outX_er, mask_nil, mask_cons, mk0_f, mk0_o, mk0_od, mk0_ot, mk0_n, peek_nil, peek_cons, pk_f, pk_o, pk_od, pk_ot, pk_n, dOf_int, dOf_bl, dOf_str, dOf_non, opI0_int, opI_int, unI_int, asB_bl, asI_int, asL_lst, asT_tup, asW_web, eqS_int, eqS_str, ixL_lst, ixT_tup, ixQ_lst, ixQ_tup, lenD_lst, lenD_tup, listD_lst, listD_tup, catD_lst, rng1_int, rng2_int, sName_go, sTup_go, sCons_go, sNil_go, bTup_go, bCons_go, bNil_go, two_go, List.set_cons_zero, List.set_cons_succ, List.getElem?_cons_zero, List.getElem?_cons_succ, Option.join_some, atI_0, atI_1, atI_2, decide_eq_true_eq, wipeE, List.map_cons, List.map_nil, step_nx, step_ct, step_bk, step_rt, step_rl, step_er, vOf_int, vOf_str] at hq ⊢
          refine ⟨by show 0 ≤ 100000; decide, by show 1 ≤ 100000; decide, ?_⟩
          refine loop_run (fun i ρ => ∃ y2 y3 y4, ρ = [some (.f (.web n As Ms)), some (.o ((chooseL [[]] ((rowsL n As Ms).take i)).map chD)), y2, y3, y4]) ⟨_, _, _, rfl⟩ ?_ ?_
          · rintro i hi ρ ⟨y2, y3, y4, rfl⟩
            have hi' := hi
            rw [List.length_map] at hi
            have lt := tl_len w (p := (i : Int))
            have cb := choose_bd tr (by omega) hi
            have eg : ((rowsL n As Ms).map lD)[i]'hi' = lD (tiesAt As Ms (i : Int)) := by rw [List.getElem_map, rows_get]
            simp only [eg, lD, own_0, own_S, run_bnd, run_ret, run_opt, run_req, run_all, run_choose, run_ite, then_nx, then_rt, then_rl, then_er, then_ct, then_bk, outD_rt, outD_rl, outD_nx, outL_rl, outX_rt, outX_rl, outX_nx, outX_er, mask_nil, mask_cons, mk0_f, mk0_o, mk0_od, mk0_ot, mk0_n, peek_nil, peek_cons, pk_f, pk_o, pk_od, pk_ot, pk_n, dOf_int, dOf_bl, dOf_str, dOf_non, opI0_int, opI_int, unI_int, asB_bl, asI_int, asL_lst, asT_tup, asW_web, eqS_int, eqS_str, ixL_lst, ixT_tup, ixQ_lst, ixQ_tup, lenD_lst, lenD_tup, listD_lst, listD_tup, catD_lst, rng1_int, rng2_int, sName_go, sTup_go, sCons_go, sNil_go, bTup_go, bCons_go, bNil_go, two_go, List.set_cons_zero, List.set_cons_succ, List.getElem?_cons_zero, List.getElem?_cons_succ, Option.join_some, atI_0, atI_1, atI_2, decide_eq_true_eq, wipeE, List.map_cons, List.map_nil, step_nx, step_ct, step_bk, step_rt, step_rl, step_er, vOf_int, vOf_str, List.length_map]
            refine ⟨by omega, ?_⟩
            refine ex_ret (M.cat_map (g := chD) (h := fun c => (tiesAt As Ms (i : Int)).map fun t => chD (c ++ [t])) fun c hc => ?_) fun ys hy => ?_
            · simp only [lcF2_go, run_bnd, run_ret, run_opt, run_req, run_all, run_choose, run_ite, then_nx, then_rt, then_rl, then_er, then_ct, then_bk, outD_rt, outD_rl, outD_nx, outL_rl, outX_rt, outX_rl, outX_nx, outX_er, mask_nil, mask_cons, mk0_f, mk0_o, mk0_od, mk0_ot, mk0_n, peek_nil, peek_cons, pk_f, pk_o, pk_od, pk_ot, pk_n, dOf_int, dOf_bl, dOf_str, dOf_non, opI0_int, opI_int, unI_int, asB_bl, asI_int, asL_lst, asT_tup, asW_web, eqS_int, eqS_str, ixL_lst, ixT_tup, ixQ_lst, ixQ_tup, lenD_lst, lenD_tup, listD_lst, listD_tup, catD_lst, rng1_int, rng2_int, sName_go, sTup_go, sCons_go, sNil_go, bTup_go, bCons_go, bNil_go, two_go, List.set_cons_zero, List.set_cons_succ, List.getElem?_cons_zero, List.getElem?_cons_succ, Option.join_some, atI_0, atI_1, atI_2, decide_eq_true_eq, wipeE, List.map_cons, List.map_nil, step_nx, step_ct, step_bk, step_rt, step_rl, step_er, vOf_int, vOf_str, List.length_map, if_true]
              refine ⟨by omega, ?_⟩
              refine ex_ret (M.sel_fltM (l := tiesAt As Ms (i : Int)) (g := tieD) (p := fun _ => true) (h := fun t => chD (c ++ [t])) fun t ht => ?_) fun zs hz => ?_
              · simp only [lcF_go, chD_go, run_bnd, run_ret, run_opt, run_req, run_all, run_choose, run_ite, then_nx, then_rt, then_rl, then_er, then_ct, then_bk, outD_rt, outD_rl, outD_nx, outL_rl, outX_rt, outX_rl, outX_nx, outX_er, mask_nil, mask_cons, mk0_f, mk0_o, mk0_od, mk0_ot, mk0_n, peek_nil, peek_cons, pk_f, pk_o, pk_od, pk_ot, pk_n, dOf_int, dOf_bl, dOf_str, dOf_non, opI0_int, opI_int, unI_int, asB_bl, asI_int, asL_lst, asT_tup, asW_web, eqS_int, eqS_str, ixL_lst, ixT_tup, ixQ_lst, ixQ_tup, lenD_lst, lenD_tup, listD_lst, listD_tup, catD_lst, rng1_int, rng2_int, sName_go, sTup_go, sCons_go, sNil_go, bTup_go, bCons_go, bNil_go, two_go, List.set_cons_zero, List.set_cons_succ, List.getElem?_cons_zero, List.getElem?_cons_succ, Option.join_some, atI_0, atI_1, atI_2, decide_eq_true_eq, wipeE, List.map_cons, List.map_nil, step_nx, step_ct, step_bk, step_rt, step_rl, step_er, vOf_int, vOf_str, if_true]
                obtain ⟨c0, h0, d, rfl, hdl, _⟩ := choose_mem (P := fun _ => True) (fun _ _ _ _ => trivial) hc
                rw [List.mem_singleton.mp h0, List.nil_append]
                have hd2 : d.length ≤ 81 := by
                  rw [hdl, List.length_take]
                  have : (rowsL n As Ms).length = n.toNat := by simp only [rowsL, ptsL, List.length_map, List.length_range]
                  omega
                refine ⟨?_, by rw [List.map_append]; rfl⟩
                rw [List.length_append, List.length_map]
                show d.length + 1 ≤ 100000
                omega
              · rw [hz, List.filter_eq_self.mpr (fun _ _ => rfl)]
            · have ee : ((chooseL [[]] ((rowsL n As Ms).take i)).flatMap fun c => (tiesAt As Ms (i : Int)).map fun t => chD (c ++ [t])) = (chooseL [[]] ((rowsL n As Ms).take (i + 1))).map chD := by
                rw [take_succ' hi, chooseL_snoc, rows_get, List.map_flatMap]
                simp only [List.map_map]
                rfl
              rw [hy, ee]
              exact ⟨_, _, _, rfl⟩
          · rintro ρ ⟨y2, y3, y4, rfl⟩
            rw [List.length_map, List.take_length]
            simp only [own_0, own_S, outY_rl, run_bnd, run_ret, run_opt, run_req, run_all, run_choose, run_ite, then_nx, then_rt, then_rl, then_er, then_ct, then_bk, outD_rt, outD_rl, outD_nx, outL_rl, outX_rt, outX_rl, outX_nx, outX_er, mask_nil, mask_cons, mk0_f, mk0_o, mk0_od, mk0_ot, mk0_n, peek_nil, peek_cons, pk_f, pk_o, pk_od, pk_ot, pk_n, dOf_int, dOf_bl, dOf_str, dOf_non, opI0_int, opI_int, unI_int, asB_bl, asI_int, asL_lst, asT_tup, asW_web, eqS_int, eqS_str, ixL_lst, ixT_tup, ixQ_lst, ixQ_tup, lenD_lst, lenD_tup, listD_lst, listD_tup, catD_lst, rng1_int, rng2_int, sName_go, sTup_go, sCons_go, sNil_go, bTup_go, bCons_go, bNil_go, two_go, List.set_cons_zero, List.set_cons_succ, List.getElem?_cons_zero, List.getElem?_cons_succ, Option.join_some, atI_0, atI_1, atI_2, decide_eq_true_eq, wipeE, List.map_cons, List.map_nil, step_nx, step_ct, step_bk, step_rt, step_rl, step_er, vOf_int, vOf_str]
            exact hq
    · exact hq.elim
end
end Dv
namespace Dv
open PySem PySem.Spec PyProof.Rows L2 RZ Sg Tm Wb
local macro_rules | `(tactic| walk_at "r2") => `(tactic| first | with_reducible exact r_I0 | with_reducible exact r_I | with_reducible exact r_eq | with_reducible exact r_ne | with_reducible exact r_isN | with_reducible exact r_notN | with_reducible exact r_ixL | with_reducible exact r_ixT | with_reducible exact r_ixQ | with_reducible exact r_eqD | with_reducible exact r_neD | with_reducible exact r_inD | with_reducible exact r_notInD | with_reducible exact r_isB | with_reducible exact r_notB)
local macro_rules | `(tactic| walk_at "r2l") => `(tactic| first | with_reducible exact r_cat)
local macro_rules | `(tactic| walk_at "rc") => `(tactic| first | with_reducible exact r_len | with_reducible exact r_all)
local macro_rules | `(tactic| walk_at "rcl") => `(tactic| first | with_reducible exact r_list)
local macro_rules | `(tactic| walk_at "eo") => `(tactic| first | with_reducible exact eo_none | (with_reducible apply eo_some; walk_at "ed"))
local macro_rules | `(tactic| walk_at "ea") => `(tactic| first | with_reducible exact ea_nil | (with_reducible apply ea_star; walk_at "ed"; walk_at "ea") | (with_reducible apply ea_cons; walk_at "ed"; walk_at "ea"))
local macro_rules | `(tactic| walk_at "et") => `(tactic| first
  | with_reducible exact et_yes
  | (with_reducible apply et_test; walk_at "ed") | (with_reducible apply et_B; walk_at "ed") | (with_reducible apply et_not; walk_at "et")
  | (with_reducible apply et_and; walk_at "et"; walk_at "et") | (with_reducible apply et_or; walk_at "et"; walk_at "et"))
local macro_rules | `(tactic| walk_at "eg") => `(tactic| first | with_reducible exact eg_name | (with_reducible apply eg_tup; walk_at "egs"))
local macro_rules | `(tactic| walk_at "egs") => `(tactic| first | with_reducible exact eg_nil | (with_reducible apply eg_cons; walk_at "eg"; walk_at "egs"))
local macro_rules | `(tactic| walk_at "es") => `(tactic| first | with_reducible exact es_name | (with_reducible apply es_tup; walk_at "ess"))
local macro_rules | `(tactic| walk_at "ess") => `(tactic| first | with_reducible exact es_nil | (with_reducible apply es_cons; walk_at "es"; walk_at "ess"))
local macro_rules | `(tactic| walk_at "ei") => `(tactic| first | (with_reducible apply ei_list; walk_at "ed") | (with_reducible apply ei_tup; walk_at "ed") | (with_reducible apply ei_rng1; walk_at "ea") | (with_reducible apply ei_rng2; walk_at "ea") | (with_reducible apply ei_str; walk_at "ed"))
local macro_rules | `(tactic| walk_at "el") => `(tactic| first
  | (with_reducible apply el_lst; walk_at "ea")
  | (focus (with_reducible apply el_lc; rotate_left; walk_at "ei"; walk_at "eg"; walk_at "et"; walk_at "ed"; decide))
  | (with_reducible apply el_op; walk_at "r2l"; walk_at "ed"; walk_at "ed")
  | (with_reducible apply el_cb; walk_at "rcl"; walk_at "ea")
  | (with_reducible apply el_sl; walk_at "ed"; walk_at "eo"; walk_at "eo")
  | (with_reducible apply el_call; walk_at "ea")
  | walk_at "el+"
  | (with_reducible apply el_meth; decide; walk_at "ed"; walk_at "ea"))
local macro_rules | `(tactic| walk_at "ed") => `(tactic| first
  | with_reducible exact ed_var | with_reducible exact ed_c
  | (with_reducible apply ed_op; walk_at "r2"; walk_at "ed"; walk_at "ed")
  | (with_reducible apply ed_call; walk_at "ea")
  | (with_reducible apply ed_callX; walk_at "ea")
  | (with_reducible apply ed_tup; walk_at "ea")
  | (with_reducible apply ed_if; walk_at "et"; walk_at "ed"; walk_at "ed")
  | (with_reducible apply ed_cb; walk_at "rc"; walk_at "ea")
  | (with_reducible apply ed_un r_U; walk_at "ed")
  | (with_reducible apply ed_chain; walk_at "r2"; walk_at "r2"; walk_at "ed"; walk_at "ed"; walk_at "ed")
  | (with_reducible apply ed_andV; walk_at "ed"; walk_at "ed") | (with_reducible apply ed_orV; walk_at "ed"; walk_at "ed")
  | (with_reducible apply ed_meth; decide; walk_at "ed"; walk_at "ea")
  | walk_at "ed+"
  | (with_reducible apply EvL.d; walk_at "el"))
local macro_rules | `(tactic| walk_at "svF") => `(tactic| first
  | (with_reducible apply sv_seq; walk_at "svF"; walk_at "svF")
  | (with_reducible apply sv_asg; walk_at "ed")
  | (with_reducible apply sv_if; walk_at "et"; walk_at "svF"; walk_at "svF")
  | (with_reducible apply sv_for; walk_at "ei"; walk_at "es"; walk_at "svF")
  | walk_at "sv")
local macro_rules | `(tactic| walk_at "sv") => `(tactic| first
  | with_reducible exact sv_next | with_reducible exact sv_break | with_reducible exact sv_cont | with_reducible exact sv_never | with_reducible exact sv_retN
  | (with_reducible apply sv_seq; walk_at "sv"; walk_at "sv")
  | (with_reducible apply sv_asgL; walk_at "el")
  | (with_reducible apply sv_asg; walk_at "ed")
  | (with_reducible apply sv_if; walk_at "et"; walk_at "sv"; walk_at "sv")
  | (with_reducible apply sv_for; walk_at "ei"; walk_at "es"; walk_at "sv")
  | (with_reducible apply sv_par; walk_at "ea")
  | (with_reducible apply sv_app; walk_at "ed")
  | (with_reducible apply sv_ret; walk_at "ed")
  | (with_reducible apply sv_asgT; walk_at "ed"; walk_at "es")
  | (with_reducible apply sv_drop; walk_at "ed"))
local macro_rules | `(tactic| walk_at "rc") => `(tactic| first | with_reducible exact r_len | with_reducible exact r_all | with_reducible exact r_max | with_reducible exact r_min)
local macro_rules | `(tactic| walk_at "rcl") => `(tactic| first | with_reducible exact r_list | with_reducible exact r_sort)
local macro_rules | `(tactic| walk_at "el+") => `(tactic| (with_reducible apply el_listRg; walk_at "ed"))
local macro_rules | `(tactic| walk_at "edm") => `(tactic| first | (with_reducible apply ed_index; walk_at "ed"; walk_at "ed") | (with_reducible apply ed_dget2; walk_at "ed"; walk_at "ed"; walk_at "ed") | with_reducible exact ed_disp2 | (with_reducible apply ed_chain; walk_at "r2"; walk_at "r2"; walk_at "ed"; walk_at "ed"; walk_at "ed"))
local macro_rules | `(tactic| walk_at "ed+") => `(tactic| walk_at "edm")
local macro_rules | `(tactic| walk_at "ex") => `(tactic| first | (with_reducible apply ex_callI; walk_at "ea") | (with_reducible apply ex_call; walk_at "ea") | (with_reducible apply ex_opL; walk_at "r2"; walk_at "ex"; walk_at "ed"))
local macro_rules | `(tactic| walk_at "svM") => `(tactic| first
  | (with_reducible apply sv_seq; walk_at "svM"; walk_at "svM")
  | (with_reducible apply sv_ins; walk_at "ed")
  | (with_reducible apply sv_asg; walk_at "ed")
  | (with_reducible apply sv_asgX; walk_at "ex")
  | (with_reducible apply sv_retX; walk_at "ex")
  | (with_reducible apply sv_if; walk_at "et"; walk_at "svM"; walk_at "svM")
  | (with_reducible apply sv_for; walk_at "ei"; walk_at "es"; walk_at "svM")
  | walk_at "sv")
local macro_rules | `(tactic| walk_at "rc") => `(tactic| first | with_reducible exact r_len | with_reducible exact r_lenK | with_reducible exact r_all | with_reducible exact r_max | with_reducible exact r_min | with_reducible exact r_max1 | with_reducible exact r_min1 | with_reducible exact r_int | with_reducible exact r_tup)
local macro_rules | `(tactic| walk_at "ei") => `(tactic| first | (with_reducible apply ei_list; walk_at "ed") | (with_reducible apply ei_tup; walk_at "ed") | (with_reducible apply ei_rng1; walk_at "ea") | (with_reducible apply ei_rng2; walk_at "ea") | (with_reducible apply ei_str; walk_at "ed") | (with_reducible apply ei_en; walk_at "ea"))
local macro_rules | `(tactic| walk_at "edk") => `(tactic| first | (with_reducible apply ed_mk2; walk_at "ea"; walk_at "ea") | (with_reducible apply ed_dget; walk_at "ed"; walk_at "ed") | (with_reducible apply ed_din; walk_at "ed"; walk_at "ed") | (with_reducible apply ed_dnin; walk_at "ed"; walk_at "ed") | walk_at "edm")
local macro_rules | `(tactic| walk_at "ed+") => `(tactic| walk_at "edk")
local macro_rules | `(tactic| walk_at "ek") => `(tactic| first | with_reducible exact ek_new | (focus (with_reducible apply ek_dc; rotate_left; walk_at "ei"; walk_at "eg"; walk_at "et"; walk_at "ed"; walk_at "ed"; decide)))
local macro_rules | `(tactic| walk_at "svN") => `(tactic| first
  | (with_reducible apply sv_seq; walk_at "svN"; walk_at "svN")
  | (with_reducible apply sv_ins; walk_at "ed")
  | (with_reducible apply sv_asgK; walk_at "ek")
  | (with_reducible apply sv_asg; walk_at "ed")
  | (with_reducible apply sv_asgX; walk_at "ex")
  | (with_reducible apply sv_dropX; walk_at "ex")
  | (with_reducible apply sv_retX; walk_at "ex")
  | (with_reducible apply sv_dput; walk_at "ed"; walk_at "ed")
  | (with_reducible apply sv_raise rfl; decide; walk_at "ed")
  | (with_reducible apply sv_if; walk_at "et"; walk_at "svN"; walk_at "svN")
  | (with_reducible apply sv_for; walk_at "ei"; walk_at "es"; walk_at "svN")
  | walk_at "sv")
local macro_rules | `(tactic| walk_at "svW") => `(tactic| first
  | (with_reducible apply sv_seq; walk_at "svW"; walk_at "svW")
  | (with_reducible apply sv_asg; walk_at "ed")
  | (with_reducible apply sv_if; walk_at "et"; walk_at "svW"; walk_at "svW")
  | (with_reducible apply sv_for; walk_at "ei"; walk_at "es"; walk_at "svW")
  | walk_at "sv")
local macro_rules | `(tactic| walk_at "svV") => `(tactic| first
  | (with_reducible apply sv_seq; walk_at "svV"; walk_at "svV")
  | (with_reducible apply sv_asgL; with_reducible apply el_lst; with_reducible exact ea_nil)
  | (with_reducible apply sv_asg; walk_at "ed")
  | (with_reducible apply sv_for; walk_at "ei"; walk_at "es"; walk_at "svV")
  | walk_at "sv")
theorem perm_pts {n : Int} {es : List D} (h0 : 0 ≤ n) (h : es.Perm (rngD 0 n.toNat)) : ∃ js : List Int, es = js.map D.int ∧ (js.length : Int) = n ∧ ∀ v ∈ js, 0 ≤ v ∧ v < n := by
  rw [rng_ints] at h
  obtain ⟨js, rfl⟩ := ints_all fun d hd => by
    obtain ⟨k, _, rfl⟩ := List.mem_map.mp (h.mem_iff.mp hd)
    exact ⟨k, rfl⟩
  have pl := h.length_eq
  rw [List.length_map, List.length_map, List.length_map, List.length_range] at pl
  refine ⟨js, rfl, by omega, fun x hx => ?_⟩
  obtain ⟨y, hy, e⟩ := List.mem_map.mp (h.mem_iff.mp (List.mem_map.mpr ⟨x, hx, rfl⟩))
  cases e
  have := mem_rng.mp hy
  omega
theorem perm_full {n : Int} {js : List Int} (h0 : 0 ≤ n) (h : (js.map D.int).Perm (rngD 0 n.toNat)) : js.Nodup ∧ ∀ x, 0 ≤ x ∧ x < n → x ∈ js := by
  rw [rng_ints] at h
  have nd : (js.map D.int).Nodup := h.nodup_iff.mpr (nodup_mapOn (fun a _ b _ e => D.int.inj e) (nodup_mapOn (fun a _ b _ e => by omega) List.nodup_range))
  refine ⟨(List.pairwise_map.mp nd).imp fun hn e => hn (by rw [e]), fun x hx => ?_⟩
  obtain ⟨y, hy, e⟩ := List.mem_map.mp (h.mem_iff.mpr (List.mem_map.mpr ⟨x, mem_rng.mpr (by omega), rfl⟩))
  cases e
  exact hy
theorem img_inj {js : List Int} (nd : js.Nodup) {i j : Int} (i0 : 0 ≤ i) (i1 : i < (js.length : Int)) (j0 : 0 ≤ j) (j1 : j < (js.length : Int)) (e : img js i = img js j) : i = j := by
  unfold img at e
  rw [List.getD_eq_getElem?_getD, List.getD_eq_getElem?_getD, List.getElem?_eq_getElem (show i.toNat < js.length by omega), List.getElem?_eq_getElem (show j.toNat < js.length by omega)] at e
  have := (List.getElem_inj nd).mp (show js[i.toNat]'(by omega) = js[j.toNat]'(by omega) from e)
  omega
theorem SrtK.ge {l u : List Ks} (h : SrtK l u) (nd : l.Nodup) : u.length = l.length := Nat.le_antisymm h.len (List.Nodup.length_le_of_subset nd fun k hk => h.all k hk)
theorem tree_srt {n : Int} {L u : List Ks} (t : TreeP n L) (nd : L.Nodup) (h : SrtK L u) : TreeP n u := ⟨by rw [h.ge nd]; exact t.1, fun p hp => (t.2 p hp).mono fun k hk => h.all k hk⟩
theorem tree_mv {n : Int} {A M : List Ks} {js : List Int} {u : List Ks} (w : WebK n A M) (hl : (js.length : Int) = n) (nd : js.Nodup) (ha : ∀ x, 0 ≤ x ∧ x < n → x ∈ js) (h : SrtK (A.map (mvK (img js))) u) (t : TreeP n A) : TreeP n u := by
  have ndA : (A.map (mvK (img js))).Nodup := nodup_mapOn (fun k hk k' hk' e => by
    obtain ⟨c, s, t, rfl, _, s0, s1, t0, t1⟩ := w.ka k hk
    obtain ⟨c', s', t', rfl, _, s0', s1', t0', t1'⟩ := w.ka k' hk'
    have e : ([.inr ⟨#[c]⟩, .inl (img js s), .inl (img js t)] : Ks) = [.inr ⟨#[c']⟩, .inl (img js s'), .inl (img js t')] := e
    simp only [List.cons.injEq, Sum.inl.injEq, Sum.inr.injEq, and_true] at e
    rw [e.1, img_inj nd s0 (by omega) s0' (by omega) e.2.1, img_inj nd t0 (by omega) t0' (by omega) e.2.2]) w.sa.nd
  have cn : ∀ {x y}, Conn A x y → Conn u (img js x) (img js y) := fun {x y} hc => by
    induction hc with
    | rf => exact .rf _
    | st _ a ih =>
      obtain ⟨c, a⟩ := a
      refine .st ih ⟨c, a.imp (fun a => ?_) fun a => ?_⟩
      · exact h.all _ (List.mem_map.mpr ⟨_, a, rfl⟩)
      · exact h.all _ (List.mem_map.mpr ⟨_, a, rfl⟩)
  refine ⟨by rw [h.ge ndA, List.length_map]; exact t.1, fun p hp => ?_⟩
  obtain ⟨a, a0, a1, ea⟩ := mem_img (ha 0 ⟨by decide, by omega⟩)
  obtain ⟨b, b0, b1, eb⟩ := mem_img (ha p hp)
  rw [← ea, ← eb]
  exact cn ((t.2 a ⟨a0, by omega⟩).symm.trans (t.2 b ⟨b0, by omega⟩))
theorem unl2s {n : Int} {ka kb : List Ks} {Q : D → Prop} (hn : 0 ≤ n ∧ n ≤ 81) (hka : ∀ k ∈ ka, AK n k) (hkb : ∀ k ∈ kb, MK n k) (la : ka.length ≤ 60) (lb : kb.length ≤ 60) (q : ∀ p : List Ks × List Ks, WebK n p.1 p.2 ∧ p.1.length ≤ ka.length ∧ p.2.length ≤ kb.length ∧ SrtK ka p.1 → Q (mwD n p.1 p.2)) : (unlM [.lst (ka.map tieD)]).run fun as => (unlM [.lst (kb.map tieD)]).run fun bs => Q (.tup [.int n, .lst as, .lst bs]) := by
  refine ⟨ka, ⟨rfl, ⟨3, fun k hk => (hka k hk).tie (by omega)⟩, by omega⟩, fun ua ha => ⟨kb, ⟨rfl, ⟨2, fun k hk => (hkb k hk).tie (by omega)⟩, by omega⟩, fun ub hb => ?_⟩⟩
  have h1 := ha.len
  have h2 := hb.len
  exact q (ua, ub) ⟨⟨hn.1, fun k hk => hka k (ha.of k hk), fun k hk => hkb k (hb.of k hk), ha.self, hb.self, by show ua.length ≤ 60; omega, by show ub.length ≤ 60; omega⟩, h1, h2, ha⟩
theorem lst_go {k : Ks} : tieD k = .tup (k.map kDd) := rfl
section
variable {P : Program} {w : World} {K : PySem.W.Frag} {mg : Str → Option Value} {base : Heap} {C : Addr} {T : List (Addr × Str)} {cls : Str → Addr}
abbrev s_law_numbered : Stmt := topS 38
def lnwM : List D → M D
  | [.box, .tup [.int n1, .lst a1, .lst m1]] => M.bnd (M.choose fun p : List Ks × List Ks => a1 = p.1.map tieD ∧ m1 = p.2.map tieD ∧ WebK n1 p.1 p.2 ∧ n1 ≤ 81) fun p => M.bnd (M.all fun q : List Ks × List Ks => WebK n1 q.1 q.2 ∧ q.1.length ≤ p.1.length ∧ q.2.length ≤ p.2.length ∧ (TreeP n1 p.1 → TreeP n1 q.1)) fun q => M.ret (mwD n1 q.1 q.2)
  | _ => M.fail
theorem len_lnw {ds : List D} {Q : _ → Prop} (h : (lnwM ds).run Q) : ds.length = 2 := by
  unfold lnwM at h
  split at h
  · rfl
  · exact h.elim
abbrev N_lnw : List Str := ["_law_box_here", "_law_m", "_law_seats"]
theorem sc_lnw : FnScope N_lnw ["_law_box_here", "_law_m"] (defScope s_law_numbered) := ⟨rfl, rfl, rfl, by decide +kernel, rfl, by decide +kernel, by decide +kernel⟩
theorem ok_lnw {f fX fV : Addr} {fd dX dV : FuncData} (F : Fun K "_law_numbered" "_law_numbered" s_law_numbered f fd) (b : Bq mg) (oX : Df P w K mg base 2 "_law_mixed" ["_law_box_here", "_law_some"] (spL (mkS K C T cls) mixM) fX dX) (oV : Df P w K mg base 2 "_law_moved" ["_law_m", "_law_many", "_law_seats"] (spD (mkS K C T cls) lmvM) fV dV) : FnOk P w K mg base CX0 4 f fd ["_law_box_here", "_law_m"] (spD (mkS K C T cls) lnwM) := by
  refine F.ok sc_lnw (fun vs H Q E h => ?_) (fun cdv A outer s H vs Q E hr h => ?_)
  · obtain ⟨B, G, ds, _, r, h⟩ := h
    rw [r.length]
    exact len_lnw h
  · have hu5 : (A.deeper (envOfC "_law_numbered" (defScope s_law_numbered) s.heap.objs.size f cdv)).units + 65 < cLine := by
      have := hr.un
      omega
    have hu : (A.deeper (envOfC "_law_numbered" (defScope s_law_numbered) s.heap.objs.size f cdv)).units + 64 < cLine := by omega
    have hu1 : (A.deeper (envOfC "_law_numbered" (defScope s_law_numbered) s.heap.objs.size f cdv)).units + 1 < cLine := by omega
    refine ⟨_, (pss_cons (ps_set (i := 2) sc_lnw.nd rfl (.inl rfl) (pe_call oX.ok (hr.mono (by decide)) (by rfl) oX.gl oX.kp oX.bd .nil pass0 (pa_cons (pv 0) (pa_cons (pe_listRg rfl (by rfl) b.list (prg_1 (by rfl) b.range (pe_ix (dx_tup (K := K) rfl) (pv 1) pe_int (fun _ _ => rfl)))) pa_nil))))
      (pss_one (ps_ret (pe_call oV.ok (hr.mono (by decide)) (by rfl) oV.gl oV.kp oV.bd .nil pass0 (pa_cons (pv 1) (pa_cons (pe_ix (dx_tup (K := K) rfl) (pv 1) pe_int (fun _ _ => rfl)) (pa_cons (pv 2) pa_nil))))))), ?_⟩
    refine run_D (X := E) (S := mkS K C T cls) (N := N_lnw) (by walk_at "svN") ?_ h
    intro ds Q hq
    unfold lnwM at hq
    split at hq
    · rename_i n1 a1 m1
      obtain ⟨⟨A1, M1⟩, ⟨rfl, rfl, w, hn⟩, hq⟩ := hq
      dsimp only at w hq
      have w0 := w.n0
      have e : startE N_lnw.length [.box, .tup [.int n1, .lst (A1.map tieD), .lst (M1.map tieD)]] = [some (.f (.box)), some (.f (.tup [.int n1, .lst (A1.map tieD), .lst (M1.map tieD)])), none] := rfl
      rw [e]
      simp only [run_bnd, run_ret, run_opt, run_req, run_all, run_choose, run_ite, then_nx, then_rt, then_rl, then_er, then_ct, then_bk, outD_rt, outD_rl, outD_nx, outL_rl, outX_rt, outX_rl, outX_nx, outX_er, mask_nil, mask_cons, mk0_f, mk0_o, mk0_od, mk0_ot, mk0_n, peek_nil, peek_cons, pk_f, pk_o, pk_od, pk_ot, pk_n, dOf_int, dOf_bl, dOf_str, dOf_non, opI0_int, opI_int, unI_int, asB_bl, asI_int, asL_lst, asT_tup, asW_web, eqS_int, eqS_str, ixL_lst, ixT_tup, ixQ_lst, ixQ_tup, lenD_lst, lenD_tup, listD_lst, listD_tup, catD_lst, rng1_int, rng2_int, sName_go, sTup_go, sCons_go, sNil_go, bTup_go, bCons_go, bNil_go, two_go, List.set_cons_zero, List.set_cons_succ, List.getElem?_cons_zero, List.getElem?_cons_succ, Option.join_some, atI_0, atI_1, atI_2, decide_eq_true_eq, wipeE, List.map_cons, List.map_nil, step_nx, step_ct, step_bk, step_rt, step_rl, step_er, vOf_int, vOf_str]
      refine ⟨⟨by omega, by omega⟩, by rw [rngD_len]; omega, fun es pm => ?_⟩
      obtain ⟨js, rfl, pl, pr⟩ := perm_pts w0 pm
      refine ⟨(A1, M1, js), ⟨rfl, rfl, rfl, w, pl, pr, w0, hn⟩, fun u hu => ?_⟩
      obtain ⟨nd, ha⟩ := perm_full w0 pm
      obtain ⟨z1, z2, z3⟩ := mv_webT w hn pl pr hu
      exact hq u ⟨z1, z2, z3, tree_mv w pl nd ha hu.1⟩
    · exact hq.elim
abbrev s_law_tree : Stmt := topS 39
def treM : List D → M D
  | [.box, .int k] => M.bnd (M.req (1 ≤ k ∧ k ≤ 20)) fun _ => M.bnd (M.all fun p : Int × List Ks × List Ks => 1 ≤ p.1 ∧ p.1 ≤ k ∧ WebK p.1 p.2.1 p.2.2 ∧ p.2.1.length ≤ 20 ∧ p.2.2.length ≤ 20 ∧ TreeP p.1 p.2.1) fun p => M.ret (mwD p.1 p.2.1 p.2.2)
  | _ => M.fail
theorem len_tre {ds : List D} {Q : _ → Prop} (h : (treM ds).run Q) : ds.length = 2 := by
  unfold treM at h
  split at h
  · rfl
  · exact h.elim
abbrev N_tre : List Str := ["_law_box_here", "_law_most", "_law_many", "_law_my_arrows", "_law_point", "_law_elder", "_law_my_marks", "_law_k"]
theorem sc_tre : FnScope N_tre ["_law_box_here", "_law_most"] (defScope s_law_tree) := ⟨rfl, rfl, rfl, by decide +kernel, rfl, by decide +kernel, by decide +kernel⟩
theorem ok_tre {f fT fO fH fS fU fN : Addr} {fd dT dO dH dS dU dN : FuncData} (F : Fun K "_law_tree" "_law_tree" s_law_tree f fd) (b : Bq mg) (oT : Df P w K mg base 1 "_law_take" ["_law_box_here", "_law_many"] (spD (mkS K C T cls) takeM) fT dT) (oO : Df P w K mg base 2 "_law_one" ["_law_box_here", "_law_some"] (spD (mkS K C T cls) oneM) fO dO) (oH : Df P w K mg base 3 "_law_hue" ["_law_box_here"] (spD (mkS K C T cls) hueM) fH dH) (oS : Df P w K mg base 3 "_law_sign" ["_law_box_here"] (spD (mkS K C T cls) signM) fS dS) (oU : Df P w K mg base 1 "_law_unlike" ["_law_some"] (spL (mkS K C T cls) unlM) fU dU) (oN : Df P w K mg base 4 "_law_numbered" ["_law_box_here", "_law_m"] (spD (mkS K C T cls) lnwM) fN dN) : FnOk P w K mg base CX0 6 f fd ["_law_box_here", "_law_most"] (spD (mkS K C T cls) treM) := by
  refine F.ok sc_tre (fun vs H Q E h => ?_) (fun cdv A outer s H vs Q E hr h => ?_)
  · obtain ⟨B, G, ds, _, r, h⟩ := h
    rw [r.length]
    exact len_tre h
  · have hu5 : (A.deeper (envOfC "_law_tree" (defScope s_law_tree) s.heap.objs.size f cdv)).units + 65 < cLine := by
      have := hr.un
      omega
    have hu : (A.deeper (envOfC "_law_tree" (defScope s_law_tree) s.heap.objs.size f cdv)).units + 64 < cLine := by omega
    have hu1 : (A.deeper (envOfC "_law_tree" (defScope s_law_tree) s.heap.objs.size f cdv)).units + 1 < cLine := by omega
    refine ⟨_, (pss_cons (ps_set (i := 2) sc_tre.nd rfl (.inr rfl) (pe_op op_add pe_int (pe_call oT.ok (hr.mono (by decide)) (by rfl) oT.gl oT.kp oT.bd .nil pass0 (pa_cons (pv 0) (pa_cons (pv 1) pa_nil)))))
      (pss_cons (ps_set (i := 3) sc_tre.nd rfl (.inl rfl) (pe_lst pa_nil))
      (pss_cons (ps_for PassesOwn.never rfl (pi_range2 (by rfl) b.range (pa_cons pe_int (pa_cons (pv 2) pa_nil))) (pg_name (i := 4) sc_tre.nd rfl (.inl rfl))
      (pss_cons (ps_set (i := 5) sc_tre.nd rfl (.inl rfl) (pe_call oO.ok (hr.mono (by decide)) (by rfl) oO.gl oO.kp oO.bd .nil pass0 (pa_cons (pv 0) (pa_cons (pe_lst (pa_cons (pe_op op_sub (pv 4) pe_int) (pa_cons (pe_call oT.ok (hr.mono (by decide)) (by rfl) oT.gl oT.kp oT.bd .nil pass0 (pa_cons (pv 0) (pa_cons (pv 4) pa_nil))) pa_nil))) pa_nil))))
      (pss_one (ps_expr (pe_bmK (K := K) rfl PySem.F.plainAttrs_list PySem.F.slot_list_append PySem.F.type_list_append mt_append (pv 3) (pa_cons (pe_call oO.ok (hr.mono (by decide)) (by rfl) oO.gl oO.kp oO.bd .nil pass0 (pa_cons (pv 0) (pa_cons (pe_lst (pa_cons (pe_tup (pa_cons (pe_call oH.ok (hr.mono (by decide)) (by rfl) oH.gl oH.kp oH.bd .nil pass0 (pa_cons (pv 0) pa_nil)) (pa_cons (pv 5) (pa_cons (pv 4) pa_nil)))) (pa_cons (pe_tup (pa_cons (pe_call oH.ok (hr.mono (by decide)) (by rfl) oH.gl oH.kp oH.bd .nil pass0 (pa_cons (pv 0) pa_nil)) (pa_cons (pv 4) (pa_cons (pv 5) pa_nil)))) pa_nil))) pa_nil))) pa_nil))))))
      (pss_cons (ps_setLc (i := 6) (own := [("_law_k", 7)]) (g := gName 7) (tt := tYes) rfl sc_tre.nd rfl rfl (sw_true rfl rfl rfl (by decide +kernel)) (pi_range1 (by rfl) b.range (pa_cons (pe_call oO.ok (hr.mono (by decide)) (by rfl) oO.gl oO.kp oO.bd .nil pass0 (pa_cons (pv 0) (pa_cons (pe_lst (pa_cons pe_int (pa_cons pe_int (pa_cons pe_int (pa_cons pe_int pa_nil))))) pa_nil))) pa_nil)) (blkOk_by (N := N_tre) (sc := defScope s_law_tree) (by decide +kernel)) (fun _ _ _ _ _ => (pg_name (i := 7) sc_tre.nd rfl (.inl rfl))) (fun _ _ _ _ _ => pts_nil) (fun _ _ _ _ _ => (pe_tup (pa_cons (pe_call oS.ok (hr.mono (by decide)) (by rfl) oS.gl oS.kp oS.bd .nil pass0 (pa_cons (pv 0) pa_nil)) (pa_cons (pe_call oT.ok (hr.mono (by decide)) (by rfl) oT.gl oT.kp oT.bd .nil pass0 (pa_cons (pv 0) (pa_cons (pv 2) pa_nil))) pa_nil)))))
      (pss_one (ps_ret (pe_call oN.ok (hr.mono (by decide)) (by rfl) oN.gl oN.kp oN.bd .nil pass0 (pa_cons (pv 0) (pa_cons (pe_tup (pa_cons (pv 2) (pa_cons (pe_call oU.ok (hr.mono (by decide)) (by rfl) oU.gl oU.kp oU.bd .nil pass0 (pa_cons (pv 3) pa_nil)) (pa_cons (pe_call oU.ok (hr.mono (by decide)) (by rfl) oU.gl oU.kp oU.bd .nil pass0 (pa_cons (pv 6) pa_nil)) pa_nil)))) pa_nil))))))))), ?_⟩
    refine run_D (X := E) (S := mkS K C T cls) (N := N_tre) (by walk_at "svV") ?_ h
    intro ds Q hq
    unfold treM at hq
    split at hq
    · rename_i k
      obtain ⟨⟨k0, k1⟩, hq⟩ := hq
      have e : startE N_tre.length [.box, .int k] = [some (.f (.box)), some (.f (.int k)), none, none, none, none, none, none] := rfl
      rw [e]
      simp only [takeM_go, run_bnd, run_ret, run_opt, run_req, run_all, run_choose, run_ite, then_nx, then_rt, then_rl, then_er, then_ct, then_bk, outD_rt, outD_rl, outD_nx, outL_rl, outX_rt, outX_rl, outX_nx, outX_er, mask_nil, mask_cons, mk0_f, mk0_o, mk0_od, mk0_ot, mk0_n, peek_nil, peek_cons, pk_f, pk_o, pk_od, pk_ot, pk_n, dOf_int, dOf_bl, dOf_str, dOf_non, opI0_int, opI_int, unI_int, asB_bl, asI_int, asL_lst, asT_tup, asW_web, eqS_int, eqS_str, ixL_lst, ixT_tup, ixQ_lst, ixQ_tup, lenD_lst, lenD_tup, listD_lst, listD_tup, catD_lst, rng1_int, rng2_int, sName_go, sTup_go, sCons_go, sNil_go, bTup_go, bCons_go, bNil_go, two_go, List.set_cons_zero, List.set_cons_succ, List.getElem?_cons_zero, List.getElem?_cons_succ, Option.join_some, atI_0, atI_1, atI_2, decide_eq_true_eq, wipeE, List.map_cons, List.map_nil, step_nx, step_ct, step_bk, step_rt, step_rl, step_er, vOf_int, vOf_str]
      refine ⟨⟨by omega, by omega⟩, fun t ht => ⟨by show 0 ≤ 100000; decide, ⟨by omega, by omega, by omega⟩, ?_⟩⟩
      have lr : (rngD 1 (1 + t - 1).toNat).length = t.toNat := by rw [rngD_len]; omega
      refine loop_run (fun i ρ => ∃ (L : List Ks) (y4 y5 : Option Sl), ρ = [some (.f .box), some (.f (.int k)), some (.f (.int (1 + t))), some (.o (L.map tieD)), y4, y5, none, none] ∧ (∀ q ∈ L, AK (1 + (i : Int)) q) ∧ L.length = i ∧ L.Nodup ∧ ∀ p : Int, 0 ≤ p ∧ p < 1 + (i : Int) → Conn L 0 p) ⟨[], _, _, rfl, (fun q hq => nomatch hq), rfl, List.nodup_nil, fun p hp => (show p = 0 by omega) ▸ Conn.rf _⟩ ?_ ?_
      · rintro i hi ρ ⟨L, y4, y5, rfl, hL, hl, nd, cn⟩
        rw [lr] at hi
        have eg : (rngD 1 (1 + t - 1).toNat)[i]'(by rw [lr]; exact hi) = .int (1 + (i : Int)) := by simp only [rngD, List.getElem_map, List.getElem_range]
        simp only [eg, takeM_go, oneM_go, run_bnd, run_ret, run_opt, run_req, run_all, run_choose, run_ite, then_nx, then_rt, then_rl, then_er, then_ct, then_bk, outD_rt, outD_rl, outD_nx, outL_rl, outX_rt, outX_rl, outX_nx, outX_er, mask_nil, mask_cons, mk0_f, mk0_o, mk0_od, mk0_ot, mk0_n, peek_nil, peek_cons, pk_f, pk_o, pk_od, pk_ot, pk_n, dOf_int, dOf_bl, dOf_str, dOf_non, opI0_int, opI_int, unI_int, asB_bl, asI_int, asL_lst, asT_tup, asW_web, eqS_int, eqS_str, ixL_lst, ixT_tup, ixQ_lst, ixQ_tup, lenD_lst, lenD_tup, listD_lst, listD_tup, catD_lst, rng1_int, rng2_int, sName_go, sTup_go, sCons_go, sNil_go, bTup_go, bCons_go, bNil_go, two_go, List.set_cons_zero, List.set_cons_succ, List.getElem?_cons_zero, List.getElem?_cons_succ, Option.join_some, atI_0, atI_1, atI_2, decide_eq_true_eq, wipeE, List.map_cons, List.map_nil, step_nx, step_ct, step_bk, step_rt, step_rl, step_er, vOf_int, vOf_str]
        refine ⟨⟨by omega, by omega⟩, fun a ha => ⟨by show 2 ≤ 100000; decide, ⟨by simp, by show 2 ≤ 1000; decide⟩, fun d hd => ?_⟩⟩
        obtain ⟨el, rfl, e0, e1⟩ : ∃ el : Int, d = .int el ∧ 0 ≤ el ∧ el < 1 + (i : Int) := by
          simp only [List.mem_cons, List.not_mem_nil, or_false] at hd
          rcases hd with rfl | rfl
          · exact ⟨_, rfl, by omega, by omega⟩
          · exact ⟨a, rfl, ha.1, ha.2⟩
        simp only [own_0, own_S, run_bnd, run_ret, run_opt, run_req, run_all, run_choose, run_ite, then_nx, then_rt, then_rl, then_er, then_ct, then_bk, outD_rt, outD_rl, outD_nx, outL_rl, outX_rt, outX_rl, outX_nx, outX_er, mask_nil, mask_cons, mk0_f, mk0_o, mk0_od, mk0_ot, mk0_n, peek_nil, peek_cons, pk_f, pk_o, pk_od, pk_ot, pk_n, dOf_int, dOf_bl, dOf_str, dOf_non, opI0_int, opI_int, unI_int, asB_bl, asI_int, asL_lst, asT_tup, asW_web, eqS_int, eqS_str, ixL_lst, ixT_tup, ixQ_lst, ixQ_tup, lenD_lst, lenD_tup, listD_lst, listD_tup, catD_lst, rng1_int, rng2_int, sName_go, sTup_go, sCons_go, sNil_go, bTup_go, bCons_go, bNil_go, two_go, List.set_cons_zero, List.set_cons_succ, List.getElem?_cons_zero, List.getElem?_cons_succ, Option.join_some, atI_0, atI_1, atI_2, decide_eq_true_eq, wipeE, List.map_cons, List.map_nil, step_nx, step_ct, step_bk, step_rt, step_rl, step_er, vOf_int, vOf_str, List.length_map]
        refine ⟨by omega, fun c hc => ?_⟩
        refine ⟨by show 3 ≤ 100000; decide, fun c' hc' => ⟨by show 3 ≤ 100000; decide, by show 2 ≤ 100000; decide, ⟨by simp, by show 2 ≤ 1000; decide⟩, fun d hd => ?_⟩⟩
        obtain ⟨q, rfl, hq', hx, ad⟩ : ∃ q : Ks, d = tieD q ∧ AK (1 + ((i + 1 : Nat) : Int)) q ∧ ¬ AK (1 + (i : Int)) q ∧ Adj (L ++ [q]) el (1 + (i : Int)) := by
          simp only [List.mem_cons, List.not_mem_nil, or_false] at hd
          rcases hd with rfl | rfl
          · exact ⟨[.inr ⟨#[c]⟩, .inl el, .inl (1 + (i : Int))], rfl, ⟨c, _, _, rfl, hc, by omega, by omega, by omega, by omega⟩, (fun ⟨_, _, _, z, _, _, _, _, z1⟩ => by simp only [List.cons.injEq, Sum.inl.injEq, and_true] at z; omega), ⟨_, .inl (List.mem_append_right _ (List.mem_singleton.mpr rfl))⟩⟩
          · exact ⟨[.inr ⟨#[c']⟩, .inl (1 + (i : Int)), .inl el], rfl, ⟨c', _, _, rfl, hc', by omega, by omega, by omega, by omega⟩, (fun ⟨_, _, _, z, _, _, z1, _, _⟩ => by simp only [List.cons.injEq, Sum.inl.injEq, and_true] at z; omega), ⟨_, .inr (List.mem_append_right _ (List.mem_singleton.mpr rfl))⟩⟩
        refine ⟨L ++ [q], _, _, by rw [List.map_append]; rfl, fun z hz => (List.mem_append.mp hz).elim (fun h => AK.mono (hL z h) (by omega)) fun h => by rw [List.mem_singleton.mp h]; exact hq', by rw [List.length_append, hl]; rfl, List.nodup_append.mpr ⟨nd, by simp, fun a ha b hb e => by rw [List.mem_singleton.mp hb] at e; subst e; exact hx (hL _ ha)⟩, fun p hp => ?_⟩
        have up : ∀ {p : Int}, 0 ≤ p ∧ p < 1 + (i : Int) → Conn (L ++ [q]) 0 p := fun hp => (cn _ hp).mono fun k hk => List.mem_append_left _ hk
        by_cases h9 : p < 1 + (i : Int)
        · exact up ⟨hp.1, h9⟩
        · obtain rfl : p = 1 + (i : Int) := by omega
          exact .st (up ⟨e0, e1⟩) ad
      · rintro ρ ⟨L, y4, y5, rfl, hL, hl, nd, cn⟩
        rw [lr] at hl hL cn
        have hL : ∀ q ∈ L, AK (1 + t) q := fun q hq => AK.mono (hL q hq) (by omega)
        have tL : TreeP (1 + t) L := ⟨by omega, fun p hp => cn p (by omega)⟩
        simp only [oneM_go, run_bnd, run_ret, run_opt, run_req, run_all, run_choose, run_ite, then_nx, then_rt, then_rl, then_er, then_ct, then_bk, outD_rt, outD_rl, outD_nx, outL_rl, outX_rt, outX_rl, outX_nx, outX_er, mask_nil, mask_cons, mk0_f, mk0_o, mk0_od, mk0_ot, mk0_n, peek_nil, peek_cons, pk_f, pk_o, pk_od, pk_ot, pk_n, dOf_int, dOf_bl, dOf_str, dOf_non, opI0_int, opI_int, unI_int, asB_bl, asI_int, asL_lst, asT_tup, asW_web, eqS_int, eqS_str, ixL_lst, ixT_tup, ixQ_lst, ixQ_tup, lenD_lst, lenD_tup, listD_lst, listD_tup, catD_lst, rng1_int, rng2_int, sName_go, sTup_go, sCons_go, sNil_go, bTup_go, bCons_go, bNil_go, two_go, List.set_cons_zero, List.set_cons_succ, List.getElem?_cons_zero, List.getElem?_cons_succ, Option.join_some, atI_0, atI_1, atI_2, decide_eq_true_eq, wipeE, List.map_cons, List.map_nil, step_nx, step_ct, step_bk, step_rt, step_rl, step_er, vOf_int, vOf_str]
        refine ⟨by show 4 ≤ 100000; decide, ⟨by simp, by show 4 ≤ 1000; decide⟩, fun d hd => ?_⟩
        obtain ⟨r, rfl, r0, r1⟩ : ∃ r : Int, d = .int r ∧ 0 ≤ r ∧ r ≤ 2 := by
          simp only [List.mem_cons, List.not_mem_nil, or_false] at hd
          rcases hd with rfl | rfl | rfl | rfl
          · exact ⟨_, rfl, by omega, by omega⟩
          · exact ⟨_, rfl, by omega, by omega⟩
          · exact ⟨_, rfl, by omega, by omega⟩
          · exact ⟨_, rfl, by omega, by omega⟩
        simp only [run_bnd, run_ret, run_opt, run_req, run_all, run_choose, run_ite, then_nx, then_rt, then_rl, then_er, then_ct, then_bk, outD_rt, outD_rl, outD_nx, outL_rl, outX_rt, outX_rl, outX_nx, outX_er, mask_nil, mask_cons, mk0_f, mk0_o, mk0_od, mk0_ot, mk0_n, peek_nil, peek_cons, pk_f, pk_o, pk_od, pk_ot, pk_n, dOf_int, dOf_bl, dOf_str, dOf_non, opI0_int, opI_int, unI_int, asB_bl, asI_int, asL_lst, asT_tup, asW_web, eqS_int, eqS_str, ixL_lst, ixT_tup, ixQ_lst, ixQ_tup, lenD_lst, lenD_tup, listD_lst, listD_tup, catD_lst, rng1_int, rng2_int, sName_go, sTup_go, sCons_go, sNil_go, bTup_go, bCons_go, bNil_go, two_go, List.set_cons_zero, List.set_cons_succ, List.getElem?_cons_zero, List.getElem?_cons_succ, Option.join_some, atI_0, atI_1, atI_2, decide_eq_true_eq, wipeE, List.map_cons, List.map_nil, step_nx, step_ct, step_bk, step_rt, step_rl, step_er, vOf_int, vOf_str]
        refine ⟨⟨by omega, by omega⟩, by rw [rngD_len]; omega, ?_⟩
        refine ex_ret (M.sel_any (P := fun d => ∃ q, d = tieD q ∧ MK (1 + t) q) fun d hd => ?_) fun bs hbs => ?_
        · simp only [lcF_go, takeM_go, run_bnd, run_ret, run_opt, run_req, run_all, run_choose, run_ite, then_nx, then_rt, then_rl, then_er, then_ct, then_bk, outD_rt, outD_rl, outD_nx, outL_rl, outX_rt, outX_rl, outX_nx, outX_er, mask_nil, mask_cons, mk0_f, mk0_o, mk0_od, mk0_ot, mk0_n, peek_nil, peek_cons, pk_f, pk_o, pk_od, pk_ot, pk_n, dOf_int, dOf_bl, dOf_str, dOf_non, opI0_int, opI_int, unI_int, asB_bl, asI_int, asL_lst, asT_tup, asW_web, eqS_int, eqS_str, ixL_lst, ixT_tup, ixQ_lst, ixQ_tup, lenD_lst, lenD_tup, listD_lst, listD_tup, catD_lst, rng1_int, rng2_int, sName_go, sTup_go, sCons_go, sNil_go, bTup_go, bCons_go, bNil_go, two_go, List.set_cons_zero, List.set_cons_succ, List.getElem?_cons_zero, List.getElem?_cons_succ, Option.join_some, atI_0, atI_1, atI_2, decide_eq_true_eq, wipeE, List.map_cons, List.map_nil, step_nx, step_ct, step_bk, step_rt, step_rl, step_er, vOf_int, vOf_str, if_true]
          refine fun c hc => ⟨⟨by omega, by omega⟩, fun v hv => ⟨by show 2 ≤ 100000; decide, fun b hb => ?_⟩⟩
          injection hb with hb
          exact ⟨[.inr ⟨#[c]⟩, .inl v], hb.symm, c, v, rfl, hc, hv.1, hv.2⟩
        obtain ⟨hbl, hb⟩ := hbs
        rw [rngD_len] at hbl
        obtain ⟨kb, rfl, hkb⟩ := ties_all (P := MK (1 + t)) hb
        rw [List.length_map] at hbl
        have := unl2s (Q := fun d => (lnwM [.box, d]).run fun d => outD Q (.rt d)) (n := 1 + t) (ka := L) (kb := kb) ⟨by omega, by omega⟩ hL hkb (by omega) (by omega) (fun p hp => ⟨(p.1, p.2), ⟨rfl, rfl, hp.1, by omega⟩, fun q hqq => hq (1 + t, q.1, q.2) ⟨by show 1 ≤ 1 + t; omega, by show 1 + t ≤ k; omega, hqq.1, by have := hqq.2.1; dsimp only at this ⊢; omega, by have := hqq.2.2.1; dsimp only at this ⊢; omega, hqq.2.2.2 (tree_srt tL nd hp.2.2.2)⟩⟩)
        exact ex_ret this fun as h2 => ex_ret h2 fun bs h3 => ⟨by show 3 ≤ 100000; decide, h3⟩
    · exact hq.elim
end
end Dv
namespace Dv
open PySem PySem.Spec PyProof.Rows L2 RZ Sg Tm Wb
local macro_rules | `(tactic| walk_at "r2") => `(tactic| first | with_reducible exact r_I0 | with_reducible exact r_I | with_reducible exact r_eq | with_reducible exact r_ne | with_reducible exact r_isN | with_reducible exact r_notN | with_reducible exact r_ixL | with_reducible exact r_ixT | with_reducible exact r_ixQ | with_reducible exact r_eqD | with_reducible exact r_neD | with_reducible exact r_inD | with_reducible exact r_notInD | with_reducible exact r_isB | with_reducible exact r_notB)
local macro_rules | `(tactic| walk_at "r2l") => `(tactic| first | with_reducible exact r_cat)
local macro_rules | `(tactic| walk_at "rc") => `(tactic| first | with_reducible exact r_len | with_reducible exact r_all)
local macro_rules | `(tactic| walk_at "rcl") => `(tactic| first | with_reducible exact r_list)
local macro_rules | `(tactic| walk_at "eo") => `(tactic| first | with_reducible exact eo_none | (with_reducible apply eo_some; walk_at "ed"))
local macro_rules | `(tactic| walk_at "ea") => `(tactic| first | with_reducible exact ea_nil | (with_reducible apply ea_star; walk_at "ed"; walk_at "ea") | (with_reducible apply ea_cons; walk_at "ed"; walk_at "ea"))
local macro_rules | `(tactic| walk_at "et") => `(tactic| first
  | with_reducible exact et_yes
  | (with_reducible apply et_test; walk_at "ed") | (with_reducible apply et_B; walk_at "ed") | (with_reducible apply et_not; walk_at "et")
  | (with_reducible apply et_and; walk_at "et"; walk_at "et") | (with_reducible apply et_or; walk_at "et"; walk_at "et"))
local macro_rules | `(tactic| walk_at "eg") => `(tactic| first | with_reducible exact eg_name | (with_reducible apply eg_tup; walk_at "egs"))
local macro_rules | `(tactic| walk_at "egs") => `(tactic| first | with_reducible exact eg_nil | (with_reducible apply eg_cons; walk_at "eg"; walk_at "egs"))
local macro_rules | `(tactic| walk_at "es") => `(tactic| first | with_reducible exact es_name | (with_reducible apply es_tup; walk_at "ess"))
local macro_rules | `(tactic| walk_at "ess") => `(tactic| first | with_reducible exact es_nil | (with_reducible apply es_cons; walk_at "es"; walk_at "ess"))
local macro_rules | `(tactic| walk_at "ei") => `(tactic| first | (with_reducible apply ei_list; walk_at "ed") | (with_reducible apply ei_tup; walk_at "ed") | (with_reducible apply ei_rng1; walk_at "ea") | (with_reducible apply ei_rng2; walk_at "ea") | (with_reducible apply ei_str; walk_at "ed"))
local macro_rules | `(tactic| walk_at "el") => `(tactic| first
  | (with_reducible apply el_lst; walk_at "ea")
  | (focus (with_reducible apply el_lc; rotate_left; walk_at "ei"; walk_at "eg"; walk_at "et"; walk_at "ed"; decide))
  | (with_reducible apply el_op; walk_at "r2l"; walk_at "ed"; walk_at "ed")
  | (with_reducible apply el_cb; walk_at "rcl"; walk_at "ea")
  | (with_reducible apply el_sl; walk_at "ed"; walk_at "eo"; walk_at "eo")
  | (with_reducible apply el_call; walk_at "ea")
  | walk_at "el+"
  | (with_reducible apply el_meth; decide; walk_at "ed"; walk_at "ea"))
local macro_rules | `(tactic| walk_at "ed") => `(tactic| first
  | with_reducible exact ed_var | with_reducible exact ed_c
  | (with_reducible apply ed_op; walk_at "r2"; walk_at "ed"; walk_at "ed")
  | (with_reducible apply ed_call; walk_at "ea")
  | (with_reducible apply ed_callX; walk_at "ea")
  | (with_reducible apply ed_tup; walk_at "ea")
  | (with_reducible apply ed_if; walk_at "et"; walk_at "ed"; walk_at "ed")
  | (with_reducible apply ed_cb; walk_at "rc"; walk_at "ea")
  | (with_reducible apply ed_un r_U; walk_at "ed")
  | (with_reducible apply ed_chain; walk_at "r2"; walk_at "r2"; walk_at "ed"; walk_at "ed"; walk_at "ed")
  | (with_reducible apply ed_andV; walk_at "ed"; walk_at "ed") | (with_reducible apply ed_orV; walk_at "ed"; walk_at "ed")
  | (with_reducible apply ed_meth; decide; walk_at "ed"; walk_at "ea")
  | walk_at "ed+"
  | (with_reducible apply EvL.d; walk_at "el"))
local macro_rules | `(tactic| walk_at "svF") => `(tactic| first
  | (with_reducible apply sv_seq; walk_at "svF"; walk_at "svF")
  | (with_reducible apply sv_asg; walk_at "ed")
  | (with_reducible apply sv_if; walk_at "et"; walk_at "svF"; walk_at "svF")
  | (with_reducible apply sv_for; walk_at "ei"; walk_at "es"; walk_at "svF")
  | walk_at "sv")
local macro_rules | `(tactic| walk_at "sv") => `(tactic| first
  | with_reducible exact sv_next | with_reducible exact sv_break | with_reducible exact sv_cont | with_reducible exact sv_never | with_reducible exact sv_retN
  | (with_reducible apply sv_seq; walk_at "sv"; walk_at "sv")
  | (with_reducible apply sv_asgL; walk_at "el")
  | (with_reducible apply sv_asg; walk_at "ed")
  | (with_reducible apply sv_if; walk_at "et"; walk_at "sv"; walk_at "sv")
  | (with_reducible apply sv_for; walk_at "ei"; walk_at "es"; walk_at "sv")
  | (with_reducible apply sv_par; walk_at "ea")
  | (with_reducible apply sv_app; walk_at "ed")
  | (with_reducible apply sv_ret; walk_at "ed")
  | (with_reducible apply sv_asgT; walk_at "ed"; walk_at "es")
  | (with_reducible apply sv_drop; walk_at "ed"))
local macro_rules | `(tactic| walk_at "rc") => `(tactic| first | with_reducible exact r_len | with_reducible exact r_all | with_reducible exact r_max | with_reducible exact r_min)
local macro_rules | `(tactic| walk_at "rcl") => `(tactic| first | with_reducible exact r_list | with_reducible exact r_sort)
local macro_rules | `(tactic| walk_at "el+") => `(tactic| (with_reducible apply el_listRg; walk_at "ed"))
local macro_rules | `(tactic| walk_at "edm") => `(tactic| first | (with_reducible apply ed_index; walk_at "ed"; walk_at "ed") | (with_reducible apply ed_dget2; walk_at "ed"; walk_at "ed"; walk_at "ed") | with_reducible exact ed_disp2 | (with_reducible apply ed_chain; walk_at "r2"; walk_at "r2"; walk_at "ed"; walk_at "ed"; walk_at "ed"))
local macro_rules | `(tactic| walk_at "ed+") => `(tactic| walk_at "edm")
local macro_rules | `(tactic| walk_at "ex") => `(tactic| first | (with_reducible apply ex_callI; walk_at "ea") | (with_reducible apply ex_call; walk_at "ea") | (with_reducible apply ex_opL; walk_at "r2"; walk_at "ex"; walk_at "ed"))
local macro_rules | `(tactic| walk_at "svM") => `(tactic| first
  | (with_reducible apply sv_seq; walk_at "svM"; walk_at "svM")
  | (with_reducible apply sv_ins; walk_at "ed")
  | (with_reducible apply sv_asg; walk_at "ed")
  | (with_reducible apply sv_asgX; walk_at "ex")
  | (with_reducible apply sv_retX; walk_at "ex")
  | (with_reducible apply sv_if; walk_at "et"; walk_at "svM"; walk_at "svM")
  | (with_reducible apply sv_for; walk_at "ei"; walk_at "es"; walk_at "svM")
  | walk_at "sv")
local macro_rules | `(tactic| walk_at "rc") => `(tactic| first | with_reducible exact r_len | with_reducible exact r_lenK | with_reducible exact r_all | with_reducible exact r_max | with_reducible exact r_min | with_reducible exact r_max1 | with_reducible exact r_min1 | with_reducible exact r_int | with_reducible exact r_tup)
local macro_rules | `(tactic| walk_at "ei") => `(tactic| first | (with_reducible apply ei_list; walk_at "ed") | (with_reducible apply ei_tup; walk_at "ed") | (with_reducible apply ei_rng1; walk_at "ea") | (with_reducible apply ei_rng2; walk_at "ea") | (with_reducible apply ei_str; walk_at "ed") | (with_reducible apply ei_en; walk_at "ea"))
local macro_rules | `(tactic| walk_at "edk") => `(tactic| first | (with_reducible apply ed_mk2; walk_at "ea"; walk_at "ea") | (with_reducible apply ed_dget; walk_at "ed"; walk_at "ed") | (with_reducible apply ed_din; walk_at "ed"; walk_at "ed") | (with_reducible apply ed_dnin; walk_at "ed"; walk_at "ed") | walk_at "edm")
local macro_rules | `(tactic| walk_at "ed+") => `(tactic| walk_at "edk")
local macro_rules | `(tactic| walk_at "ek") => `(tactic| first | with_reducible exact ek_new | (focus (with_reducible apply ek_dc; rotate_left; walk_at "ei"; walk_at "eg"; walk_at "et"; walk_at "ed"; walk_at "ed"; decide)))
local macro_rules | `(tactic| walk_at "svN") => `(tactic| first
  | (with_reducible apply sv_seq; walk_at "svN"; walk_at "svN")
  | (with_reducible apply sv_ins; walk_at "ed")
  | (with_reducible apply sv_asgK; walk_at "ek")
  | (with_reducible apply sv_asg; walk_at "ed")
  | (with_reducible apply sv_asgX; walk_at "ex")
  | (with_reducible apply sv_dropX; walk_at "ex")
  | (with_reducible apply sv_retX; walk_at "ex")
  | (with_reducible apply sv_dput; walk_at "ed"; walk_at "ed")
  | (with_reducible apply sv_raise rfl; decide; walk_at "ed")
  | (with_reducible apply sv_if; walk_at "et"; walk_at "svN"; walk_at "svN")
  | (with_reducible apply sv_for; walk_at "ei"; walk_at "es"; walk_at "svN")
  | walk_at "sv")
local macro_rules | `(tactic| walk_at "r2") => `(tactic| first | with_reducible exact r_I0 | with_reducible exact r_I | with_reducible exact r_eq | with_reducible exact r_ne | with_reducible exact r_isN | with_reducible exact r_notN | with_reducible exact r_ixL | with_reducible exact r_ixT | with_reducible exact r_ixQ | with_reducible exact r_eqD | with_reducible exact r_neD | with_reducible exact r_catT)
local macro_rules | `(tactic| walk_at "r2l") => `(tactic| first | with_reducible exact r_cat | with_reducible exact r_rep)
/-! choices rise -/
theorem ccN_snoc : ∀ (l : List Int) (t : Int), ccN (l ++ [t]) = ccN l * 2097152 + t
  | [], t => by show t * 2097152 ^ 0 + 0 = 0 * 2097152 + t; rw [Int.pow_zero]; omega
  | a :: l, t => by
    show a * 2097152 ^ (l ++ [t]).length + ccN (l ++ [t]) = (a * 2097152 ^ l.length + ccN l) * 2097152 + t
    rw [ccN_snoc l t, List.length_append, show ([t] : List Int).length = 1 from rfl, Int.pow_succ, Int.add_mul, Int.mul_assoc]
    omega
theorem cc_snoc (c : List Ks) (t : Ks) : cc (c ++ [t]) = cc c * 2097152 + tc t := by
  unfold cc
  rw [List.map_append]
  exact ccN_snoc _ _
def RowR (r : List Ks) : Prop := r.Pairwise (fun a b => tc a < tc b) ∧ ∀ k ∈ r, CK k
theorem choose_ris : ∀ {l : List (List Ks)} {acc : List (List Ks)}, (∀ r ∈ l, RowR r) → acc.Pairwise (fun a b => cc a < cc b) → (chooseL acc l).Pairwise fun a b => cc a < cc b
  | [], _, _, h => h
  | r :: l, acc, hr, h => by
    obtain ⟨h1, h2⟩ := hr r (List.mem_cons_self ..)
    refine choose_ris (l := l) (fun x hx => hr x (List.mem_cons_of_mem _ hx)) (List.pairwise_flatMap.mpr ⟨fun c hc => ?_, h.imp fun {c c'} lt x hx y hy => ?_⟩)
    · rw [List.pairwise_map]
      refine h1.imp fun {a b} ab => ?_
      rw [cc_snoc, cc_snoc]
      omega
    · obtain ⟨t, ht, rfl⟩ := List.mem_map.mp hx
      obtain ⟨u, hu, rfl⟩ := List.mem_map.mp hy
      have a := tc_bd (h2 t ht)
      have b := tc_bd (h2 u hu)
      rw [cc_snoc, cc_snoc]
      omega
theorem ck_a {n : Int} {k : Ks} (h : AK n k) (hn : n ≤ 81) : CK k := by
  obtain ⟨c, x, y, rfl, hc, h1, h2, h3, h4⟩ := h
  exact .inl ⟨c, x, y, rfl, by omega, by omega, by omega, by omega, by omega, by omega⟩
theorem ck_m {n : Int} {k : Ks} (h : MK n k) (hn : n ≤ 81) : CK k := by
  obtain ⟨c, x, rfl, hc, h1, h2⟩ := h
  exact .inr ⟨c, x, rfl, by omega, by omega, by omega, by omega⟩
theorem code3 (c : Nat) (x y : Int) : TS.code 128 (([.inr ⟨#[c]⟩, .inl x, .inl y] : Ks).map numK) = tc [.inr ⟨#[c]⟩, .inl x, .inl y] := by
  rw [tc_a]
  show TS.code 128 [(c : Int), x, y] = _
  simp only [TS.code, List.length_cons, List.length_nil]
  omega
theorem code2 (c : Nat) (x : Int) : TS.code 128 (([.inr ⟨#[c]⟩, .inl x] : Ks).map numK) * 128 = tc [.inr ⟨#[c]⟩, .inl x] := by
  rw [tc_m]
  show TS.code 128 [(c : Int), x] * 128 = _
  simp only [TS.code, List.length_cons, List.length_nil]
  omega
theorem ris_nd {l : List Ks} (h : l.Pairwise fun a b => tc a ≤ tc b) (nd : l.Nodup) (hc : ∀ k ∈ l, CK k) : l.Pairwise fun a b => tc a < tc b := by
  refine List.Pairwise.imp_of_mem (fun {a b} ha hb hab => ?_) (h.and nd)
  rcases Int.lt_or_eq_of_le hab.1 with z | z
  · exact z
  · exact absurd (tc_inj (hc a ha) (hc b hb) z) hab.2
theorem row_ris {n p : Int} {A M : List Ks} (w : WebK n A M) (hn : n ≤ 81) : RowR (tiesAt A M p) := by
  have ca : ∀ k ∈ A, CK k := fun k hk => ck_a (w.ka k hk) hn
  have cm : ∀ k ∈ M, CK k := fun k hk => ck_m (w.km k hk) hn
  have ra : A.Pairwise fun a b => tc a < tc b := by
    refine ris_nd (List.Pairwise.imp_of_mem (fun {a b} ha hb h => ?_) w.sa.ris) w.sa.nd ca
    obtain ⟨c, x, y, rfl, _⟩ := w.ka a ha
    obtain ⟨c', x', y', rfl, _⟩ := w.ka b hb
    rw [code3, code3] at h
    exact h
  have rm : M.Pairwise fun a b => tc a < tc b := by
    refine ris_nd (List.Pairwise.imp_of_mem (fun {a b} ha hb h => ?_) w.sm.ris) w.sm.nd cm
    obtain ⟨c, x, rfl, _⟩ := w.km a ha
    obtain ⟨c', x', rfl, _⟩ := w.km b hb
    rw [← code2, ← code2]
    omega
  refine ⟨List.pairwise_append.mpr ⟨ra.filter _, rm.filter _, fun a ha b hb => ?_⟩, fun k hk => ?_⟩
  · obtain ⟨c, x, y, rfl, hc, h1, h2, h3, h4⟩ := w.ka a (List.mem_filter.mp ha).1
    obtain ⟨c', x', rfl, hc', h1', h2'⟩ := w.km b (List.mem_filter.mp hb).1
    rw [tc_a, tc_m]
    omega
  · rcases List.mem_append.mp hk with h | h
    · exact ca k (List.mem_filter.mp h).1
    · exact cm k (List.mem_filter.mp h).1
theorem rows_ris {n : Int} {A M : List Ks} (w : WebK n A M) (hn : n ≤ 81) : ∀ r ∈ rowsL n A M, RowR r := fun r hr => by
  obtain ⟨p, _, rfl⟩ := List.mem_map.mp hr
  exact row_ris w hn
/-- a rising list and a rearrangement of it that does not fall are one -/
theorem ris_uniq {α : Type} {f : α → Int} : ∀ {l u : List α}, l.Pairwise (fun a b => f a < f b) → u.Perm l → u.Pairwise (fun a b => f a ≤ f b) → u = l
  | [], u, _, pm, _ => pm.eq_nil
  | a :: l, [], _, pm, _ => absurd pm.length_eq (by simp)
  | a :: l, b :: u, h, pm, hu => by
    obtain ⟨h1, h2⟩ := List.pairwise_cons.mp h
    obtain ⟨u1, u2⟩ := List.pairwise_cons.mp hu
    have e : b = a := by
      rcases List.mem_cons.mp (pm.mem_iff.mp (List.mem_cons_self ..)) with e | e
      · exact e
      · rcases List.mem_cons.mp (pm.mem_iff.mpr (List.mem_cons_self ..)) with e2 | e2
        · exact e2.symm
        · have x1 := h1 b e
          have x2 := u1 a e2
          omega
    subst e
    rw [ris_uniq h2 (List.perm_cons b |>.mp pm) u2]
theorem choose_srt {n : Int} {A M : List Ks} {u : List (List Ks)} (w : WebK n A M) (hn : n ≤ 81) (pm : u.Perm (chooseL [[]] (rowsL n A M))) (hu : u.Pairwise fun a b => cc a ≤ cc b) : u = chooseL [[]] (rowsL n A M) := ris_uniq (choose_ris (rows_ris w hn) (List.pairwise_singleton _ _)) pm hu
section
variable {P : Program} {w : World} {K : PySem.W.Frag} {mg : Str → Option Value} {base : Heap} {C : Addr} {T : List (Addr × Str)} {cls : Str → Addr}
abbrev s_law_size : Stmt := topS 41
def lszM : List D → M D
  | [.tup [.int n1, .lst a1, .lst m1]] => M.bnd (M.choose fun q : List Ks × List Ks => a1 = q.1.map tieD ∧ m1 = q.2.map tieD ∧ WebK n1 q.1 q.2 ∧ n1 ≤ 81) fun q => M.ret (.int (prodL (rowsL n1 q.1 q.2)))
  | _ => M.fail
theorem len_lsz {ds : List D} {Q : _ → Prop} (h : (lszM ds).run Q) : ds.length = 1 := by
  unfold lszM at h
  split at h
  · rfl
  · exact h.elim
abbrev N_lsz : List Str := ["_law_m", "_law_found", "_law_point"]
theorem sc_lsz : FnScope N_lsz ["_law_m"] (defScope s_law_size) := ⟨rfl, rfl, rfl, by decide +kernel, rfl, by decide +kernel, by decide +kernel⟩
theorem ok_lsz {f fL : Addr} {fd dL : FuncData} (F : Fun K "_law_size" "_law_size" s_law_size f fd) (b : Bq mg) (oL : Df P w K mg base 1 "_law_ties" ["_law_m", "_law_point"] (spD (mkS K C T cls) ltiM) fL dL) : FnOk P w K mg base CX0 3 f fd ["_law_m"] (spD (mkS K C T cls) lszM) := by
  refine F.ok sc_lsz (fun vs H Q E h => ?_) (fun cdv A outer s H vs Q E hr h => ?_)
  · obtain ⟨B, G, ds, _, r, h⟩ := h
    rw [r.length]
    exact len_lsz h
  · have hu5 : (A.deeper (envOfC "_law_size" (defScope s_law_size) s.heap.objs.size f cdv)).units + 65 < cLine := by
      have := hr.un
      omega
    have hu : (A.deeper (envOfC "_law_size" (defScope s_law_size) s.heap.objs.size f cdv)).units + 64 < cLine := by omega
    have hu1 : (A.deeper (envOfC "_law_size" (defScope s_law_size) s.heap.objs.size f cdv)).units + 1 < cLine := by omega
    refine ⟨_, (pss_cons (ps_set (i := 1) sc_lsz.nd rfl (.inl rfl) pe_int)
      (pss_cons (ps_for PassesOwn.never rfl (pi_range1 (by rfl) b.range (pa_cons (pe_ix (dx_tup (K := K) rfl) (pv 0) pe_int (fun _ _ => rfl)) pa_nil)) (pg_name (i := 2) sc_lsz.nd rfl (.inl rfl))
      (pss_one (ps_set (i := 1) sc_lsz.nd rfl (.inl rfl) (pe_op op_mul (pv 1) (pe_callB (dv_len (K := K) rfl) (by rfl) b.len PySem.boot_len (pa_cons (pe_call oL.ok (hr.mono (by decide)) (by rfl) oL.gl oL.kp oL.bd .nil pass0 (pa_cons (pv 0) (pa_cons (pv 2) pa_nil))) pa_nil))))))
      (pss_one (ps_ret (pv 1))))), ?_⟩
    refine run_D (X := E) (S := mkS K C T cls) (N := N_lsz) (by walk_at "svF") ?_ h
    intro ds Q hq
    unfold lszM at hq
    split at hq
    · rename_i n1 a1 m1
      obtain ⟨⟨A1, M1⟩, ⟨rfl, rfl, w, hn⟩, hq⟩ := hq
      dsimp only at w hq
      have w0 := w.n0
      have e : startE N_lsz.length [.tup [.int n1, .lst (A1.map tieD), .lst (M1.map tieD)]] = [some (.f (.tup [.int n1, .lst (A1.map tieD), .lst (M1.map tieD)])), none, none] := rfl
      rw [e]
      simp only [run_bnd, run_ret, run_opt, run_req, run_all, run_choose, run_ite, then_nx, then_rt, then_rl, then_er, then_ct, then_bk, outD_rt, outD_rl, outD_nx, outL_rl, outX_rt, outX_rl, outX_nx, outX_er, mask_nil, mask_cons, mk0_f, mk0_o, mk0_od, mk0_ot, mk0_n, peek_nil, peek_cons, pk_f, pk_o, pk_od, pk_ot, pk_n, dOf_int, dOf_bl, dOf_str, dOf_non, opI0_int, opI_int, unI_int, asB_bl, asI_int, asL_lst, asT_tup, asW_web, eqS_int, eqS_str, ixL_lst, ixT_tup, ixQ_lst, ixQ_tup, lenD_lst, lenD_tup, listD_lst, listD_tup, catD_lst, rng1_int, rng2_int, sName_go, sTup_go, sCons_go, sNil_go, bTup_go, bCons_go, bNil_go, two_go, List.set_cons_zero, List.set_cons_succ, List.getElem?_cons_zero, List.getElem?_cons_succ, Option.join_some, atI_0, atI_1, atI_2, decide_eq_true_eq, wipeE, List.map_cons, List.map_nil, step_nx, step_ct, step_bk, step_rt, step_rl, step_er, vOf_int, vOf_str]
      refine ⟨⟨by omega, by omega⟩, ?_⟩
      have hl : (rowsL n1 A1 M1).length = n1.toNat := by simp only [rowsL, ptsL, List.length_map, List.length_range]
      refine loop_run (fun i ρ => ∃ y, ρ = [some (.f (.tup [.int n1, .lst (A1.map tieD), .lst (M1.map tieD)])), some (.f (.int (prodL ((rowsL n1 A1 M1).take i)))), y]) ⟨_, rfl⟩ ?_ ?_
      · rintro i hi ρ ⟨y, rfl⟩
        have eg : (rngD 0 n1.toNat)[i] = .int (i : Int) := by simp only [rngD, List.getElem_map, List.getElem_range, Int.zero_add]
        rw [rngD_len] at hi
        have lt := tl_len w (p := (i : Int))
        simp only [eg, run_bnd, run_ret, run_opt, run_req, run_all, run_choose, run_ite, then_nx, then_rt, then_rl, then_er, then_ct, then_bk, outD_rt, outD_rl, outD_nx, outL_rl, outX_rt, outX_rl, outX_nx, outX_er, mask_nil, mask_cons, mk0_f, mk0_o, mk0_od, mk0_ot, mk0_n, peek_nil, peek_cons, pk_f, pk_o, pk_od, pk_ot, pk_n, dOf_int, dOf_bl, dOf_str, dOf_non, opI0_int, opI_int, unI_int, asB_bl, asI_int, asL_lst, asT_tup, asW_web, eqS_int, eqS_str, ixL_lst, ixT_tup, ixQ_lst, ixQ_tup, lenD_lst, lenD_tup, listD_lst, listD_tup, catD_lst, rng1_int, rng2_int, sName_go, sTup_go, sCons_go, sNil_go, bTup_go, bCons_go, bNil_go, two_go, List.set_cons_zero, List.set_cons_succ, List.getElem?_cons_zero, List.getElem?_cons_succ, Option.join_some, atI_0, atI_1, atI_2, decide_eq_true_eq, wipeE, List.map_cons, List.map_nil, step_nx, step_ct, step_bk, step_rt, step_rl, step_er, vOf_int, vOf_str]
        refine ⟨(A1, M1), ⟨rfl, rfl, w⟩, ?_⟩
        simp only [List.length_map, run_bnd, run_ret, run_opt, run_req, run_all, run_choose, run_ite, then_nx, then_rt, then_rl, then_er, then_ct, then_bk, outD_rt, outD_rl, outD_nx, outL_rl, outX_rt, outX_rl, outX_nx, outX_er, mask_nil, mask_cons, mk0_f, mk0_o, mk0_od, mk0_ot, mk0_n, peek_nil, peek_cons, pk_f, pk_o, pk_od, pk_ot, pk_n, dOf_int, dOf_bl, dOf_str, dOf_non, opI0_int, opI_int, unI_int, asB_bl, asI_int, asL_lst, asT_tup, asW_web, eqS_int, eqS_str, ixL_lst, ixT_tup, ixQ_lst, ixQ_tup, lenD_lst, lenD_tup, listD_lst, listD_tup, catD_lst, rng1_int, rng2_int, sName_go, sTup_go, sCons_go, sNil_go, bTup_go, bCons_go, bNil_go, two_go, List.set_cons_zero, List.set_cons_succ, List.getElem?_cons_zero, List.getElem?_cons_succ, Option.join_some, atI_0, atI_1, atI_2, decide_eq_true_eq, wipeE, List.map_cons, List.map_nil, step_nx, step_ct, step_bk, step_rt, step_rl, step_er, vOf_int, vOf_str]
        refine ⟨.inr ⟨by omega, by omega⟩, some (.f (.int (i : Int))), ?_⟩
        rw [take_succ' (by rw [hl]; exact hi), prodL_snoc, rows_get]
      · rintro ρ ⟨y, rfl⟩
        rw [rngD_len, ← hl, List.take_length]
        simp only [run_bnd, run_ret, run_opt, run_req, run_all, run_choose, run_ite, then_nx, then_rt, then_rl, then_er, then_ct, then_bk, outD_rt, outD_rl, outD_nx, outL_rl, outX_rt, outX_rl, outX_nx, outX_er, mask_nil, mask_cons, mk0_f, mk0_o, mk0_od, mk0_ot, mk0_n, peek_nil, peek_cons, pk_f, pk_o, pk_od, pk_ot, pk_n, dOf_int, dOf_bl, dOf_str, dOf_non, opI0_int, opI_int, unI_int, asB_bl, asI_int, asL_lst, asT_tup, asW_web, eqS_int, eqS_str, ixL_lst, ixT_tup, ixQ_lst, ixQ_tup, lenD_lst, lenD_tup, listD_lst, listD_tup, catD_lst, rng1_int, rng2_int, sName_go, sTup_go, sCons_go, sNil_go, bTup_go, bCons_go, bNil_go, two_go, List.set_cons_zero, List.set_cons_succ, List.getElem?_cons_zero, List.getElem?_cons_succ, Option.join_some, atI_0, atI_1, atI_2, decide_eq_true_eq, wipeE, List.map_cons, List.map_nil, step_nx, step_ct, step_bk, step_rt, step_rl, step_er, vOf_int, vOf_str]
        exact hq
    · exact hq.elim
abbrev s_law_small_tree : Stmt := topS 42
def lstM : List D → M D
  | [.box, .int k, .int top] => M.bnd (M.req (1 ≤ k ∧ k ≤ 20 ∧ 4 ≤ top)) fun _ => M.bnd (M.all fun p : Int × List Ks × List Ks => 1 ≤ p.1 ∧ p.1 ≤ 20 ∧ WebK p.1 p.2.1 p.2.2 ∧ TreeP p.1 p.2.1 ∧ prodL (rowsL p.1 p.2.1 p.2.2) ≤ top) fun p => M.ret (mwD p.1 p.2.1 p.2.2)
  | _ => M.fail
theorem tre_go (k : Int) : treM [.box, .int k] = M.bnd (M.req (1 ≤ k ∧ k ≤ 20)) fun _ => M.bnd (M.all fun p : Int × List Ks × List Ks => 1 ≤ p.1 ∧ p.1 ≤ k ∧ WebK p.1 p.2.1 p.2.2 ∧ p.2.1.length ≤ 20 ∧ p.2.2.length ≤ 20 ∧ TreeP p.1 p.2.1) fun p => M.ret (mwD p.1 p.2.1 p.2.2) := rfl
theorem lsz_run {n : Int} {A M : List Ks} {Q : D → Prop} (w : WebK n A M) (hn : n ≤ 81) (q : Q (.int (prodL (rowsL n A M)))) : (lszM [mwD n A M]).run Q := ⟨(A, M), ⟨rfl, rfl, w, hn⟩, q⟩
abbrev kA01 : Ks := [.inr ⟨#[97]⟩, .inl 0, .inl 1]
abbrev kP0 : Ks := [.inr ⟨#[112]⟩, .inl 0]
theorem srt_one (k : Ks) : SrtK [k] [k] := ⟨fun _ h => h, fun _ h => h, List.nodup_cons.mpr ⟨List.not_mem_nil, List.nodup_nil⟩, List.pairwise_singleton _ _⟩
theorem srt_nil' : SrtK [] [] := ⟨(fun k hk => nomatch hk), (fun k hk => nomatch hk), List.nodup_nil, List.Pairwise.nil⟩
theorem tree_2 : TreeP 2 [kA01] := ⟨rfl, fun p hp => by
  have h1 : Adj [kA01] 0 1 := ⟨⟨#[97]⟩, .inl (List.mem_singleton.mpr rfl)⟩
  rcases (show p = 0 ∨ p = 1 by omega) with rfl | rfl
  · exact .rf _
  · exact .st (.rf _) h1⟩
theorem ka_2 : ∀ k ∈ [kA01], AK 2 k := fun k hk => by
  rw [List.mem_singleton.mp hk]
  exact ⟨97, 0, 1, rfl, .inl rfl, by decide, by decide, by decide, by decide⟩
theorem web_2 : WebK 2 [kA01] [] := ⟨by decide, ka_2, (fun k hk => nomatch hk), srt_one _, srt_nil', by decide, by decide⟩
theorem web_2p : WebK 2 [kA01] [kP0] := ⟨by decide, ka_2, fun k hk => by
  rw [List.mem_singleton.mp hk]
  exact ⟨112, 0, rfl, .inl rfl, by decide, by decide⟩, srt_one _, srt_one _, by decide, by decide⟩
theorem cut_1 (l : List D) : cutD l none (some 1) = l.take 1 := by
  unfold cutD
  cases l with
  | nil => simp
  | cons d l =>
    rw [HT.sIx_none, show (some (1 : Int)) = some ((1 : Nat) : Int) from rfl, HT.sIx_nat, List.length_cons, Nat.min_eq_left (by omega), List.drop_zero]
theorem len_lst {ds : List D} {Q : _ → Prop} (h : (lstM ds).run Q) : ds.length = 3 := by
  unfold lstM at h
  split at h
  · rfl
  · exact h.elim
abbrev N_lst : List Str := ["_law_box_here", "_law_most", "_law_top", "_law_m"]
theorem sc_lst : FnScope N_lst ["_law_box_here", "_law_most", "_law_top"] (defScope s_law_small_tree) := ⟨rfl, rfl, rfl, by decide +kernel, rfl, by decide +kernel, by decide +kernel⟩
theorem ok_lst {f fT fZ : Addr} {fd dT dZ : FuncData} (F : Fun K "_law_small_tree" "_law_small_tree" s_law_small_tree f fd) (bI : mg "int" = none) (oT : Df P w K mg base 6 "_law_tree" ["_law_box_here", "_law_most"] (spD (mkS K C T cls) treM) fT dT) (oZ : Df P w K mg base 3 "_law_size" ["_law_m"] (spD (mkS K C T cls) lszM) fZ dZ) : FnOk P w K mg base CX0 8 f fd ["_law_box_here", "_law_most", "_law_top"] (spD (mkS K C T cls) lstM) := by
  refine F.ok sc_lst (fun vs H Q E h => ?_) (fun cdv A outer s H vs Q E hr h => ?_)
  · obtain ⟨B, G, ds, _, r, h⟩ := h
    rw [r.length]
    exact len_lst h
  · have hu5 : (A.deeper (envOfC "_law_small_tree" (defScope s_law_small_tree) s.heap.objs.size f cdv)).units + 65 < cLine := by
      have := hr.un
      omega
    have hu : (A.deeper (envOfC "_law_small_tree" (defScope s_law_small_tree) s.heap.objs.size f cdv)).units + 64 < cLine := by omega
    have hu1 : (A.deeper (envOfC "_law_small_tree" (defScope s_law_small_tree) s.heap.objs.size f cdv)).units + 1 < cLine := by omega
    refine ⟨_, (pss_cons (ps_set (i := 3) sc_lst.nd rfl (.inl rfl) (pe_call oT.ok (hr.mono (by decide)) (by rfl) oT.gl oT.kp oT.bd .nil pass0 (pa_cons (pv 0) (pa_cons (pv 1) pa_nil))))
      (pss_one (ps_ret (pe_ifExp (pt_cmpR op_le (pe_call oZ.ok (hr.mono (by decide)) (by rfl) oZ.gl oZ.kp oZ.bd .nil pass0 (pa_cons (pv 3) pa_nil)) (pv 2) (nomark _)) (pv 3) (pe_tup (pa_cons pe_int (pa_cons (pe_lst (pa_cons (pe_tup (pa_cons pe_str (pa_cons pe_int (pa_cons pe_int pa_nil)))) pa_nil)) (pa_cons (pe_op op_rep (pe_slice (dv_slL (K := K) rfl) (pe_ix (dx_tup (K := K) rfl) (pv 3) pe_int (fun _ _ => rfl)) po_none (po_some pe_int)) (pe_callTy call_int1 (by rfl) bI (by decide +kernel) (pa_cons (pe_cmpR (dv_eq (K := K) rfl hu) (pe_slice (dv_slL (K := K) rfl) (pe_ix (dx_tup (K := K) rfl) (pv 3) pe_int (fun _ _ => rfl)) po_none (po_some pe_int)) (pe_lst (pa_cons (pe_tup (pa_cons pe_str (pa_cons pe_int pa_nil))) pa_nil)) (nomark _)) pa_nil))) pa_nil)))))))), ?_⟩
    refine run_D (X := E) (S := mkS K C T cls) (N := N_lst) (by walk_at "svF") ?_ h
    intro ds Q hq
    unfold lstM at hq
    split at hq
    · rename_i k top
      obtain ⟨⟨h1, h2, h3⟩, hq⟩ := hq
      have e : startE N_lst.length [.box, .int k, .int top] = [some (.f (.box)), some (.f (.int k)), some (.f (.int top)), none] := rfl
      rw [e]
      simp only [tre_go, run_bnd, run_ret, run_opt, run_req, run_all, run_choose, run_ite, then_nx, then_rt, then_rl, then_er, then_ct, then_bk, outD_rt, outD_rl, outD_nx, outL_rl, outX_rt, outX_rl, outX_nx, outX_er, mask_nil, mask_cons, mk0_f, mk0_o, mk0_od, mk0_ot, mk0_n, peek_nil, peek_cons, pk_f, pk_o, pk_od, pk_ot, pk_n, dOf_int, dOf_bl, dOf_str, dOf_non, opI0_int, opI_int, unI_int, asB_bl, asI_int, asL_lst, asT_tup, asW_web, eqS_int, eqS_str, ixL_lst, ixT_tup, ixQ_lst, ixQ_tup, lenD_lst, lenD_tup, listD_lst, listD_tup, catD_lst, rng1_int, rng2_int, sName_go, sTup_go, sCons_go, sNil_go, bTup_go, bCons_go, bNil_go, two_go, List.set_cons_zero, List.set_cons_succ, List.getElem?_cons_zero, List.getElem?_cons_succ, Option.join_some, atI_0, atI_1, atI_2, decide_eq_true_eq, wipeE, List.map_cons, List.map_nil, step_nx, step_ct, step_bk, step_rt, step_rl, step_er, vOf_int, vOf_str]
      refine ⟨⟨h1, h2⟩, fun ⟨n, A, M⟩ ⟨a1, b1, w, c1, d1, t⟩ => ?_⟩
      dsimp only at a1 b1 w c1 d1 t
      simp only [run_bnd, run_ret, run_opt, run_req, run_all, run_choose, run_ite, then_nx, then_rt, then_rl, then_er, then_ct, then_bk, outD_rt, outD_rl, outD_nx, outL_rl, outX_rt, outX_rl, outX_nx, outX_er, mask_nil, mask_cons, mk0_f, mk0_o, mk0_od, mk0_ot, mk0_n, peek_nil, peek_cons, pk_f, pk_o, pk_od, pk_ot, pk_n, dOf_int, dOf_bl, dOf_str, dOf_non, opI0_int, opI_int, unI_int, asB_bl, asI_int, asL_lst, asT_tup, asW_web, eqS_int, eqS_str, ixL_lst, ixT_tup, ixQ_lst, ixQ_tup, lenD_lst, lenD_tup, listD_lst, listD_tup, catD_lst, rng1_int, rng2_int, sName_go, sTup_go, sCons_go, sNil_go, bTup_go, bCons_go, bNil_go, two_go, List.set_cons_zero, List.set_cons_succ, List.getElem?_cons_zero, List.getElem?_cons_succ, Option.join_some, atI_0, atI_1, atI_2, decide_eq_true_eq, wipeE, List.map_cons, List.map_nil, step_nx, step_ct, step_bk, step_rt, step_rl, step_er, vOf_int, vOf_str]
      refine lsz_run w (by omega) ?_
      simp only [run_bnd, run_ret, run_opt, run_req, run_all, run_choose, run_ite, then_nx, then_rt, then_rl, then_er, then_ct, then_bk, outD_rt, outD_rl, outD_nx, outL_rl, outX_rt, outX_rl, outX_nx, outX_er, mask_nil, mask_cons, mk0_f, mk0_o, mk0_od, mk0_ot, mk0_n, peek_nil, peek_cons, pk_f, pk_o, pk_od, pk_ot, pk_n, dOf_int, dOf_bl, dOf_str, dOf_non, opI0_int, opI_int, unI_int, asB_bl, asI_int, asL_lst, asT_tup, asW_web, eqS_int, eqS_str, ixL_lst, ixT_tup, ixQ_lst, ixQ_tup, lenD_lst, lenD_tup, listD_lst, listD_tup, catD_lst, rng1_int, rng2_int, sName_go, sTup_go, sCons_go, sNil_go, bTup_go, bCons_go, bNil_go, two_go, List.set_cons_zero, List.set_cons_succ, List.getElem?_cons_zero, List.getElem?_cons_succ, Option.join_some, atI_0, atI_1, atI_2, decide_eq_true_eq, wipeE, List.map_cons, List.map_nil, step_nx, step_ct, step_bk, step_rt, step_rl, step_er, vOf_int, vOf_str]
      by_cases hp : prodL (rowsL n A M) ≤ top
      · rw [if_pos hp]
        exact hq (n, A, M) ⟨a1, by dsimp only; omega, w, t, hp⟩
      · rw [if_neg hp]
        have em : mwD n A M = .tup [.int n, .lst (A.map tieD), .lst (M.map tieD)] := rfl
        simp only [em, cut_1, run_bnd, run_ret, run_opt, run_req, run_all, run_choose, run_ite, then_nx, then_rt, then_rl, then_er, then_ct, then_bk, outD_rt, outD_rl, outD_nx, outL_rl, outX_rt, outX_rl, outX_nx, outX_er, mask_nil, mask_cons, mk0_f, mk0_o, mk0_od, mk0_ot, mk0_n, peek_nil, peek_cons, pk_f, pk_o, pk_od, pk_ot, pk_n, dOf_int, dOf_bl, dOf_str, dOf_non, opI0_int, opI_int, unI_int, asB_bl, asI_int, asL_lst, asT_tup, asW_web, eqS_int, eqS_str, ixL_lst, ixT_tup, ixQ_lst, ixQ_tup, lenD_lst, lenD_tup, listD_lst, listD_tup, catD_lst, rng1_int, rng2_int, sName_go, sTup_go, sCons_go, sNil_go, bTup_go, bCons_go, bNil_go, two_go, List.set_cons_zero, List.set_cons_succ, List.getElem?_cons_zero, List.getElem?_cons_succ, Option.join_some, atI_0, atI_1, atI_2, decide_eq_true_eq, wipeE, List.map_cons, List.map_nil, step_nx, step_ct, step_bk, step_rt, step_rl, step_er, vOf_int, vOf_str]
        have e1 : (D.lst ((M.map tieD).take 1)) = lD (M.take 1) := by rw [← List.map_take]; rfl
        have e2 : (D.lst [.tup [.str "p", .int 0]]) = lD [kP0] := rfl
        have e3 : (D.lst [.tup [.str "a", .int 0, .int 1]]) = lD [kA01] := rfl
        rw [e1, e2, e3]
        have s1 : (lD (M.take 1)).std := std_liM fun k hk => w.km k (List.mem_of_mem_take hk)
        have s2 : (lD [kP0]).std := std_liM web_2p.km
        refine ⟨by show 3 ≤ 100000; decide, by show 1 ≤ 100000; decide, by show 2 ≤ 100000; decide, by show 1 ≤ 100000; decide, ⟨s1.1, s2.1⟩, ?_⟩
        have r1 : (M.take 1).length ≤ 1 := by rw [List.length_take]; omega
        by_cases he : eqD (lD (M.take 1)) (lD [kP0]) = true
        · have hm := (eqD_iff s1 s2).mp he
          rw [he, hm]
          refine ⟨⟨by decide, by decide, by show 1 ≤ 100; decide⟩, by show 3 ≤ 100000; decide, ?_⟩
          refine hq (2, [kA01], [kP0]) ⟨by decide, by decide, web_2p, tree_2, ?_⟩
          have : prodL (rowsL 2 [kA01] [kP0]) = 2 := by decide +kernel
          rw [this]
          omega
        · have he' : eqD (lD (M.take 1)) (lD [kP0]) = false := by
            cases h9 : eqD (lD (M.take 1)) (lD [kP0]) with
            | false => rfl
            | true => exact absurd h9 he
          rw [he']
          refine ⟨⟨by decide, by decide, ?_⟩, by show 3 ≤ 100000; decide, ?_⟩
          · show ((M.take 1).map tieD).length ≤ 100
            rw [List.length_map]
            omega
          · refine hq (2, [kA01], []) ⟨by decide, by decide, web_2, tree_2, ?_⟩
            have : prodL (rowsL 2 [kA01] []) = 1 := by decide +kernel
            rw [this]
            omega
    · exact hq.elim
abbrev s_law_choices : Stmt := topS 43
def lchM : List D → M D
  | [.tup [.int n1, .lst a1, .lst m1]] => M.bnd (M.choose fun q : List Ks × List Ks => a1 = q.1.map tieD ∧ m1 = q.2.map tieD ∧ WebK n1 q.1 q.2 ∧ n1 ≤ 81 ∧ TreeP n1 q.1 ∧ prodL (rowsL n1 q.1 q.2) ≤ 64) fun q => M.ret (.lst ((chooseL [[]] (rowsL n1 q.1 q.2)).map chD))
  | _ => M.fail
theorem len_lch {ds : List D} {Q : _ → Prop} (h : (lchM ds).run Q) : ds.length = 1 := by
  unfold lchM at h
  split at h
  · rfl
  · exact h.elim
abbrev N_lch : List Str := ["_law_m", "_law_found", "_law_point", "_law_longer", "_law_row", "_law_tie"]
theorem sc_lch : FnScope N_lch ["_law_m"] (defScope s_law_choices) := ⟨rfl, rfl, rfl, by decide +kernel, rfl, by decide +kernel, by decide +kernel⟩
theorem ok_lch {f fL : Addr} {fd dL : FuncData} (F : Fun K "_law_choices" "_law_choices" s_law_choices f fd) (b : Bq mg) (oL : Df P w K mg base 1 "_law_ties" ["_law_m", "_law_point"] (spD (mkS K C T cls) ltiM) fL dL) : FnOk P w K mg base CX0 3 f fd ["_law_m"] (spD (mkS K C T cls) lchM) := by
  refine F.ok sc_lch (fun vs H Q E h => ?_) (fun cdv A outer s H vs Q E hr h => ?_)
  · obtain ⟨B, G, ds, _, r, h⟩ := h
    rw [r.length]
    exact len_lch h
  · have hu5 : (A.deeper (envOfC "_law_choices" (defScope s_law_choices) s.heap.objs.size f cdv)).units + 65 < cLine := by
      have := hr.un
      omega
    have hu : (A.deeper (envOfC "_law_choices" (defScope s_law_choices) s.heap.objs.size f cdv)).units + 64 < cLine := by omega
    have hu1 : (A.deeper (envOfC "_law_choices" (defScope s_law_choices) s.heap.objs.size f cdv)).units + 1 < cLine := by omega
    refine ⟨_, (pss_cons (ps_set (i := 1) sc_lch.nd rfl (.inl rfl) (pe_lst (pa_cons (pe_tup pa_nil) pa_nil)))
      (pss_cons (ps_for PassesOwn.never rfl (pi_range1 (by rfl) b.range (pa_cons (pe_ix (dx_tup (K := K) rfl) (pv 0) pe_int (fun _ _ => rfl)) pa_nil)) (pg_name (i := 2) sc_lch.nd rfl (.inl rfl))
      (pss_cons (ps_set (i := 3) sc_lch.nd rfl (.inl rfl) (pe_lst pa_nil))
      (pss_cons (ps_for PassesOwn.never rfl (di_list (K := K) rfl (pv 1)) (pg_name (i := 4) sc_lch.nd rfl (.inr rfl))
      (pss_one (ps_set (i := 3) sc_lch.nd rfl (.inl rfl) (pe_op op_cat (pv 3) (pe_lc (own := [("_law_tie", 5)]) (g := gName 5) (tt := tYes) rfl sc_lch.nd (di_list (K := K) rfl (pe_call oL.ok (hr.mono (by decide)) (by rfl) oL.gl oL.kp oL.bd .nil pass0 (pa_cons (pv 0) (pa_cons (pv 2) pa_nil)))) (blkOk_by (N := N_lch) (sc := defScope s_law_choices) (by decide +kernel)) (fun _ _ _ _ _ => (pg_name (i := 5) sc_lch.nd rfl (.inl rfl))) (fun _ _ _ _ _ => pts_nil) (fun _ _ _ _ _ => (pe_op (op_catAK (K := K) rfl) (pv 4) (pe_tup (pa_cons (pv 5) pa_nil)))))))))
      (pss_one (ps_set (i := 1) sc_lch.nd rfl (.inl rfl) (pv 3))))))
      (pss_one (ps_ret (pv 1))))), ?_⟩
    refine run_D (X := E) (S := mkS K C T cls) (N := N_lch) (by walk_at "svF") ?_ h
    intro ds Q hq
    unfold lchM at hq
    split at hq
    · rename_i n1 a1 m1
      obtain ⟨⟨A1, M1⟩, ⟨rfl, rfl, w, hn, tr, hp⟩, hq⟩ := hq
      dsimp only at w hq tr hp
      have w0 := w.n0
      have e : startE N_lch.length [.tup [.int n1, .lst (A1.map tieD), .lst (M1.map tieD)]] = [some (.f (.tup [.int n1, .lst (A1.map tieD), .lst (M1.map tieD)])), none, none, none, none, none] := rfl
      rw [e]
      simp only [run_bnd, run_ret, run_opt, run_req, run_all, run_choose, run_ite, then_nx, then_rt, then_rl, then_er, then_ct, then_bk, outD_rt, outD_rl, outD_nx, outL_rl, outX_rt, outX_rl, outX_nx, outX_er, mask_nil, mask_cons, mk0_f, mk0_o, mk0_od, mk0_ot, mk0_n, peek_nil, peek_cons, pk_f, pk_o, pk_od, pk_ot, pk_n, dOf_int, dOf_bl, dOf_str, dOf_non, opI0_int, opI_int, unI_int, asB_bl, asI_int, asL_lst, asT_tup, asW_web, eqS_int, eqS_str, ixL_lst, ixT_tup, ixQ_lst, ixQ_tup, lenD_lst, lenD_tup, listD_lst, listD_tup, catD_lst, rng1_int, rng2_int, sName_go, sTup_go, sCons_go, sNil_go, bTup_go, bCons_go, bNil_go, two_go, List.set_cons_zero, List.set_cons_succ, List.getElem?_cons_zero, List.getElem?_cons_succ, Option.join_some, atI_0, atI_1, atI_2, decide_eq_true_eq, wipeE, List.map_cons, List.map_nil, step_nx, step_ct, step_bk, step_rt, step_rl, step_er, vOf_int, vOf_str]
      refine ⟨by show 0 ≤ 100000; decide, by show 1 ≤ 100000; decide, ⟨by omega, by omega⟩, ?_⟩
      have hl : (rowsL n1 A1 M1).length = n1.toNat := by simp only [rowsL, ptsL, List.length_map, List.length_range]
      refine loop_run (fun i ρ => ∃ y2 y3 y4 y5, ρ = [some (.f (.tup [.int n1, .lst (A1.map tieD), .lst (M1.map tieD)])), some (.f (.lst ((chooseL [[]] ((rowsL n1 A1 M1).take i)).map chD))), y2, y3, y4, y5]) ⟨_, _, _, _, rfl⟩ ?_ ?_
      · rintro i hi ρ ⟨y2, y3, y4, y5, rfl⟩
        have eg : (rngD 0 n1.toNat)[i] = .int (i : Int) := by simp only [rngD, List.getElem_map, List.getElem_range, Int.zero_add]
        rw [rngD_len] at hi
        have hi2 : i < (rowsL n1 A1 M1).length := by rw [hl]; exact hi
        have lt := tl_len w (p := (i : Int))
        have cb := choose_bd tr hp hi2
        generalize hC : chooseL [[]] ((rowsL n1 A1 M1).take i) = Cs at cb ⊢
        have hcl : ∀ c ∈ Cs, c.length ≤ 81 := fun c hc => by
          rw [← hC] at hc
          obtain ⟨c0, h0, d, rfl, hdl, _⟩ := choose_mem (P := fun _ => True) (fun _ _ _ _ => trivial) hc
          rw [List.mem_singleton.mp h0, List.nil_append, hdl, List.length_take]
          omega
        simp only [eg, run_bnd, run_ret, run_opt, run_req, run_all, run_choose, run_ite, then_nx, then_rt, then_rl, then_er, then_ct, then_bk, outD_rt, outD_rl, outD_nx, outL_rl, outX_rt, outX_rl, outX_nx, outX_er, mask_nil, mask_cons, mk0_f, mk0_o, mk0_od, mk0_ot, mk0_n, peek_nil, peek_cons, pk_f, pk_o, pk_od, pk_ot, pk_n, dOf_int, dOf_bl, dOf_str, dOf_non, opI0_int, opI_int, unI_int, asB_bl, asI_int, asL_lst, asT_tup, asW_web, eqS_int, eqS_str, ixL_lst, ixT_tup, ixQ_lst, ixQ_tup, lenD_lst, lenD_tup, listD_lst, listD_tup, catD_lst, rng1_int, rng2_int, sName_go, sTup_go, sCons_go, sNil_go, bTup_go, bCons_go, bNil_go, two_go, List.set_cons_zero, List.set_cons_succ, List.getElem?_cons_zero, List.getElem?_cons_succ, Option.join_some, atI_0, atI_1, atI_2, decide_eq_true_eq, wipeE, List.map_cons, List.map_nil, step_nx, step_ct, step_bk, step_rt, step_rl, step_er, vOf_int, vOf_str]
        refine ⟨by show 0 ≤ 100000; decide, ?_⟩
        refine loop_run (fun j ρ => ∃ y4 y5, ρ = [some (.f (.tup [.int n1, .lst (A1.map tieD), .lst (M1.map tieD)])), some (.f (.lst (Cs.map chD))), some (.f (.int (i : Int))), some (.f (.lst (((Cs.take j).flatMap fun c => (tiesAt A1 M1 (i : Int)).map fun t => c ++ [t]).map chD))), y4, y5]) ⟨_, _, rfl⟩ ?_ ?_
        · rintro j hj ρ ⟨y4, y5, rfl⟩
          have hj' := hj
          rw [List.length_map] at hj
          have ej : (Cs.map chD)[j]'hj' = chD (Cs[j]) := by rw [List.getElem_map]
          simp only [ej, run_bnd, run_ret, run_opt, run_req, run_all, run_choose, run_ite, then_nx, then_rt, then_rl, then_er, then_ct, then_bk, outD_rt, outD_rl, outD_nx, outL_rl, outX_rt, outX_rl, outX_nx, outX_er, mask_nil, mask_cons, mk0_f, mk0_o, mk0_od, mk0_ot, mk0_n, peek_nil, peek_cons, pk_f, pk_o, pk_od, pk_ot, pk_n, dOf_int, dOf_bl, dOf_str, dOf_non, opI0_int, opI_int, unI_int, asB_bl, asI_int, asL_lst, asT_tup, asW_web, eqS_int, eqS_str, ixL_lst, ixT_tup, ixQ_lst, ixQ_tup, lenD_lst, lenD_tup, listD_lst, listD_tup, catD_lst, rng1_int, rng2_int, sName_go, sTup_go, sCons_go, sNil_go, bTup_go, bCons_go, bNil_go, two_go, List.set_cons_zero, List.set_cons_succ, List.getElem?_cons_zero, List.getElem?_cons_succ, Option.join_some, atI_0, atI_1, atI_2, decide_eq_true_eq, wipeE, List.map_cons, List.map_nil, step_nx, step_ct, step_bk, step_rt, step_rl, step_er, vOf_int, vOf_str]
          refine ⟨(A1, M1), ⟨rfl, rfl, w⟩, ?_⟩
          simp only [List.length_map, run_bnd, run_ret, run_opt, run_req, run_all, run_choose, run_ite, then_nx, then_rt, then_rl, then_er, then_ct, then_bk, outD_rt, outD_rl, outD_nx, outL_rl, outX_rt, outX_rl, outX_nx, outX_er, mask_nil, mask_cons, mk0_f, mk0_o, mk0_od, mk0_ot, mk0_n, peek_nil, peek_cons, pk_f, pk_o, pk_od, pk_ot, pk_n, dOf_int, dOf_bl, dOf_str, dOf_non, opI0_int, opI_int, unI_int, asB_bl, asI_int, asL_lst, asT_tup, asW_web, eqS_int, eqS_str, ixL_lst, ixT_tup, ixQ_lst, ixQ_tup, lenD_lst, lenD_tup, listD_lst, listD_tup, catD_lst, rng1_int, rng2_int, sName_go, sTup_go, sCons_go, sNil_go, bTup_go, bCons_go, bNil_go, two_go, List.set_cons_zero, List.set_cons_succ, List.getElem?_cons_zero, List.getElem?_cons_succ, Option.join_some, atI_0, atI_1, atI_2, decide_eq_true_eq, wipeE, List.map_cons, List.map_nil, step_nx, step_ct, step_bk, step_rt, step_rl, step_er, vOf_int, vOf_str]
          refine ⟨by omega, ?_⟩
          refine ex_ret (M.sel_fltM (l := tiesAt A1 M1 (i : Int)) (g := tieD) (p := fun _ => true) (h := fun t => chD (Cs[j] ++ [t])) fun t ht => ?_) fun zs hz => ?_
          · have hc := hcl _ (List.getElem_mem hj)
            simp only [lcF_go, chD_go, catT_go, run_bnd, run_ret, run_opt, run_req, run_all, run_choose, run_ite, then_nx, then_rt, then_rl, then_er, then_ct, then_bk, outD_rt, outD_rl, outD_nx, outL_rl, outX_rt, outX_rl, outX_nx, outX_er, mask_nil, mask_cons, mk0_f, mk0_o, mk0_od, mk0_ot, mk0_n, peek_nil, peek_cons, pk_f, pk_o, pk_od, pk_ot, pk_n, dOf_int, dOf_bl, dOf_str, dOf_non, opI0_int, opI_int, unI_int, asB_bl, asI_int, asL_lst, asT_tup, asW_web, eqS_int, eqS_str, ixL_lst, ixT_tup, ixQ_lst, ixQ_tup, lenD_lst, lenD_tup, listD_lst, listD_tup, catD_lst, rng1_int, rng2_int, sName_go, sTup_go, sCons_go, sNil_go, bTup_go, bCons_go, bNil_go, two_go, List.set_cons_zero, List.set_cons_succ, List.getElem?_cons_zero, List.getElem?_cons_succ, Option.join_some, atI_0, atI_1, atI_2, decide_eq_true_eq, wipeE, List.map_cons, List.map_nil, step_nx, step_ct, step_bk, step_rt, step_rl, step_er, vOf_int, vOf_str, if_true]
            refine ⟨by show 1 ≤ 100000; decide, ?_, by rw [List.map_append]; rfl⟩
            rw [List.length_map]
            show Cs[j].length + 1 ≤ 100000
            omega
          · rw [hz, List.filter_eq_self.mpr (fun _ _ => rfl)]
            have fl : ((Cs.take j).flatMap fun c => (tiesAt A1 M1 (i : Int)).map fun t => c ++ [t]).length ≤ 64 * 200 := by
              rw [flat_len, List.length_take]
              exact Nat.mul_le_mul (by omega) lt
            refine ⟨?_, ?_⟩
            · rw [List.length_map, flat_len]
              rw [flat_len] at fl
              omega
            · have ee : (((Cs.take j).flatMap fun c => (tiesAt A1 M1 (i : Int)).map fun t => c ++ [t]).map chD ++ (tiesAt A1 M1 (i : Int)).map fun t => chD (Cs[j] ++ [t])) = ((Cs.take (j + 1)).flatMap fun c => (tiesAt A1 M1 (i : Int)).map fun t => c ++ [t]).map chD := by
                rw [take_succ' hj, List.flatMap_append, List.map_append]
                congr 1
                simp [List.flatMap_cons, Function.comp_def]
              rw [ee]
              exact ⟨_, _, rfl⟩
        · rintro ρ ⟨y4, y5, rfl⟩
          rw [List.length_map, List.take_length]
          simp only [run_bnd, run_ret, run_opt, run_req, run_all, run_choose, run_ite, then_nx, then_rt, then_rl, then_er, then_ct, then_bk, outD_rt, outD_rl, outD_nx, outL_rl, outX_rt, outX_rl, outX_nx, outX_er, mask_nil, mask_cons, mk0_f, mk0_o, mk0_od, mk0_ot, mk0_n, peek_nil, peek_cons, pk_f, pk_o, pk_od, pk_ot, pk_n, dOf_int, dOf_bl, dOf_str, dOf_non, opI0_int, opI_int, unI_int, asB_bl, asI_int, asL_lst, asT_tup, asW_web, eqS_int, eqS_str, ixL_lst, ixT_tup, ixQ_lst, ixQ_tup, lenD_lst, lenD_tup, listD_lst, listD_tup, catD_lst, rng1_int, rng2_int, sName_go, sTup_go, sCons_go, sNil_go, bTup_go, bCons_go, bNil_go, two_go, List.set_cons_zero, List.set_cons_succ, List.getElem?_cons_zero, List.getElem?_cons_succ, Option.join_some, atI_0, atI_1, atI_2, decide_eq_true_eq, wipeE, List.map_cons, List.map_nil, step_nx, step_ct, step_bk, step_rt, step_rl, step_er, vOf_int, vOf_str]
          have ee : (Cs.flatMap fun c => (tiesAt A1 M1 (i : Int)).map fun t => c ++ [t]) = chooseL [[]] ((rowsL n1 A1 M1).take (i + 1)) := by
            rw [take_succ' hi2, chooseL_snoc, rows_get, hC]
          rw [ee]
          exact ⟨_, _, _, _, rfl⟩
      · rintro ρ ⟨y2, y3, y4, y5, rfl⟩
        rw [rngD_len, ← hl, List.take_length]
        simp only [run_bnd, run_ret, run_opt, run_req, run_all, run_choose, run_ite, then_nx, then_rt, then_rl, then_er, then_ct, then_bk, outD_rt, outD_rl, outD_nx, outL_rl, outX_rt, outX_rl, outX_nx, outX_er, mask_nil, mask_cons, mk0_f, mk0_o, mk0_od, mk0_ot, mk0_n, peek_nil, peek_cons, pk_f, pk_o, pk_od, pk_ot, pk_n, dOf_int, dOf_bl, dOf_str, dOf_non, opI0_int, opI_int, unI_int, asB_bl, asI_int, asL_lst, asT_tup, asW_web, eqS_int, eqS_str, ixL_lst, ixT_tup, ixQ_lst, ixQ_tup, lenD_lst, lenD_tup, listD_lst, listD_tup, catD_lst, rng1_int, rng2_int, sName_go, sTup_go, sCons_go, sNil_go, bTup_go, bCons_go, bNil_go, two_go, List.set_cons_zero, List.set_cons_succ, List.getElem?_cons_zero, List.getElem?_cons_succ, Option.join_some, atI_0, atI_1, atI_2, decide_eq_true_eq, wipeE, List.map_cons, List.map_nil, step_nx, step_ct, step_bk, step_rt, step_rl, step_er, vOf_int, vOf_str]
        exact hq
    · exact hq.elim
end
end Dv
namespace Dv
open PySem PySem.Spec PyProof.Rows L2 RZ Sg Tm Wb
def g6 {α : Type} : List α → List α → List α → List α
  | [s, p], [a], [m] => [s, p, a, m]
  | _, _, _ => []
def mkMk : List D → List D → M D
  | [.int n], [.lst es] => M.bnd (M.choose fun lm : List Ks => es = lm.map tieD ∧ GoodW n [] lm) fun lm => M.bnd (M.all fun u => SrtK lm u) fun u => M.ret (.web n [] u)
  | _, _ => M.fail
theorem mkMk_go (n : Int) (es : List D) : mkMk [.int n] [.lst es] = M.bnd (M.choose fun lm : List Ks => es = lm.map tieD ∧ GoodW n [] lm) fun lm => M.bnd (M.all fun u => SrtK lm u) fun u => M.ret (.web n [] u) := rfl
section
variable {P : Program} {w : World} {K : PySem.W.Frag} {mg : Str → Option Value} {base : Heap} {C : Addr} {T : List (Addr × Str)} {cls : Str → Addr}
theorem kb6 {f : Addr} {fd : FuncData} {ta tm : Addr} (F : FunD K "__init__" "Web.__init__" (defArgs sInit) (defBody sInit) (defScope sInit) [] [("arrows", .ref ta), ("marks", .ref tm)] f fd) : ∃ av : List Value, KBn K fd psI 2 ["marks"] (fun us ws => g6 us av ws) (fun vs zs => g6 vs [.ref ta] zs) := by
  refine F.kbinds0 2 ["marks"] [("arrows", .ref ta)] g6 (fun z => nomatch z) (fun q h => by rw [List.mem_singleton.mp h]; exact List.mem_cons_self ..) ?_ ?_
  · intro vs mz zs us mv ws h1 h2 h3
    match h1, h2, h3 with
    | .cons a0 (.cons a1 .nil), .cons c0 .nil, .cons b0 .nil => exact .cons a0 (.cons a1 (.cons c0 (.cons b0 .nil)))
    | .nil, _, _ => exact .nil
    | .cons _ .nil, _, _ => exact .nil
    | .cons _ (.cons _ (.cons _ _)), _, _ => exact .nil
    | .cons _ (.cons _ .nil), .nil, _ => exact .nil
    | .cons _ (.cons _ .nil), .cons _ (.cons _ _), _ => exact .nil
    | .cons _ (.cons _ .nil), .cons _ .nil, .nil => exact .nil
    | .cons _ (.cons _ .nil), .cons _ .nil, .cons _ (.cons _ _) => exact .nil
  · intro D doc pm an cdv ct us mv ws l1 l2 l3
    match us, mv, ws, l1, l2, l3 with
    | [s, p], [m], [a], _, _, _ => exact ⟨_, _, _, _, _, _, rfl, rfl, rfl⟩
theorem ed_mkMk {ta : Addr} {E : XK} (ea : ∀ H, SqT K H ta []) {t tk : TA} {m mk : Dv.Env → M (List D)} (h : EvA (mkS K C T cls) t m) (hk : EvA (mkS K C T cls) tk mk) : EvD (mkS K C T cls) (tMakeK C 1 (["marks"] : List Str).length (spInit K C) (fun vs zs => g6 vs [.ref ta] zs) E t tk) (fun ρ => M.bnd (m ρ) fun l => M.bnd (mk ρ) fun z => mkMk l z) := fun B σ H G ρ Q k er q =>
  h B σ H G ρ _ k er ((m ρ).mono (fun l hl vs H1 G1 k1 c1 r1 => hk B σ H1 G1 ρ _ k1 (er.mono c1.ext) ((mk ρ).mono (fun z hz zs H2 G2 k2 c2 r2 => by
    have hz : (mkMk l z).run (Rs1 (mkS K C T cls) B H G Q) := hz
    unfold mkMk at hz
    split at hz
    · obtain ⟨lm, ⟨rfl, h0, h1, _, gM, _, l1⟩, hz2⟩ := hz
      have r1' := r1.mono c2.ext
      cases r1' with
      | cons a b =>
        cases a
        cases b
        cases r2 with
        | cons a b =>
          cases b
          refine ⟨rfl, rfl, fun x dx nx ndx ne => ?_⟩
          obtain ⟨aa, km, rfl, e1, e2, rfl⟩ := list_of (l := lm) a
          have gM' : ∀ p ∈ km, MK _ p.2 := fun p hp => gM _ (List.mem_map.mpr ⟨p, hp, rfl⟩)
          rw [List.length_map] at l1
          refine mk_use (ka := []) nx ndx ne h0 h1 ⟨.inr (ea _), fun p hp => nomatch hp⟩ (fun p hp => nomatch hp) (by decide) ⟨.inl (SqL.of (k2.sub _ _ e1)), fun p hp => sub_tup k2.sub (e2 p hp)⟩ gM' l1 fun J' As Ms W sA sM sm => ?_
          have eA : As = [] := by
            cases As with
            | nil => rfl
            | cons p _ => exact nomatch sA.of p (List.mem_cons_self ..)
          subst eA
          obtain ⟨k3, c3⟩ := newG_same k2 (show Dv.Sub H2 J' from sm)
          have w1 : WebAt C (fun a => match H2 a with | none => J' a | some _ => newG H2 J' G2 a) x _ [] Ms := W _ fun c o hc he => by
            show (match H2 c with | none => J' c | some _ => _) = _
            rw [hc]; exact he
          have w2 : WebAt C (newG H2 J' G2) x _ [] Ms := w1.extN fun b o hb hn => by
            cases hh : H2 b with
            | none =>
              simp only [hh] at hb
              rw [newG_none hh, hb]
              exact noTab_go hn
            | some u =>
              simp only [hh] at hb
              exact hb
          have b1 := sM.len
          exact (show Rs1 _ B H G Q (.web _ [] (Ms.map (·.2))) from hz2 (Ms.map (fun p : TK => p.2)) (srtK_of sM)) _ J' _ k3 ((c1.trans c2).trans c3) (.web ⟨[], Ms, ⟨w2, (fun z hz => nomatch hz), fun z hz => sub_tup c3.ext (e2 z (sM.of z hz)), (fun z hz => nomatch hz), fun z hz => gM' z (sM.of z hz), by decide, by omega, h0, h1⟩, rfl, rfl⟩)
    · exact hz.elim) hl)) q)
end
end Dv
namespace Dv
open PySem PySem.Spec PyProof.Rows L2 RZ Sg Tm Wb
local macro_rules | `(tactic| walk_at "r2") => `(tactic| first | with_reducible exact r_I0 | with_reducible exact r_I | with_reducible exact r_eq | with_reducible exact r_ne | with_reducible exact r_isN | with_reducible exact r_notN | with_reducible exact r_ixL | with_reducible exact r_ixT | with_reducible exact r_ixQ | with_reducible exact r_eqD | with_reducible exact r_neD | with_reducible exact r_inD | with_reducible exact r_notInD | with_reducible exact r_isB | with_reducible exact r_notB)
local macro_rules | `(tactic| walk_at "r2l") => `(tactic| first | with_reducible exact r_cat)
local macro_rules | `(tactic| walk_at "rc") => `(tactic| first | with_reducible exact r_len | with_reducible exact r_all)
local macro_rules | `(tactic| walk_at "rcl") => `(tactic| first | with_reducible exact r_list)
local macro_rules | `(tactic| walk_at "eo") => `(tactic| first | with_reducible exact eo_none | (with_reducible apply eo_some; walk_at "ed"))
local macro_rules | `(tactic| walk_at "ea") => `(tactic| first | with_reducible exact ea_nil | (with_reducible apply ea_star; walk_at "ed"; walk_at "ea") | (with_reducible apply ea_cons; walk_at "ed"; walk_at "ea"))
local macro_rules | `(tactic| walk_at "et") => `(tactic| first
  | with_reducible exact et_yes
  | (with_reducible apply et_test; walk_at "ed") | (with_reducible apply et_B; walk_at "ed") | (with_reducible apply et_not; walk_at "et")
  | (with_reducible apply et_and; walk_at "et"; walk_at "et") | (with_reducible apply et_or; walk_at "et"; walk_at "et"))
local macro_rules | `(tactic| walk_at "eg") => `(tactic| first | with_reducible exact eg_name | (with_reducible apply eg_tup; walk_at "egs"))
local macro_rules | `(tactic| walk_at "egs") => `(tactic| first | with_reducible exact eg_nil | (with_reducible apply eg_cons; walk_at "eg"; walk_at "egs"))
local macro_rules | `(tactic| walk_at "es") => `(tactic| first | with_reducible exact es_name | (with_reducible apply es_tup; walk_at "ess"))
local macro_rules | `(tactic| walk_at "ess") => `(tactic| first | with_reducible exact es_nil | (with_reducible apply es_cons; walk_at "es"; walk_at "ess"))
local macro_rules | `(tactic| walk_at "ei") => `(tactic| first | (with_reducible apply ei_list; walk_at "ed") | (with_reducible apply ei_tup; walk_at "ed") | (with_reducible apply ei_rng1; walk_at "ea") | (with_reducible apply ei_rng2; walk_at "ea") | (with_reducible apply ei_str; walk_at "ed"))
local macro_rules | `(tactic| walk_at "el") => `(tactic| first
  | (with_reducible apply el_lst; walk_at "ea")
  | (focus (with_reducible apply el_lc; rotate_left; walk_at "ei"; walk_at "eg"; walk_at "et"; walk_at "ed"; decide))
  | (with_reducible apply el_op; walk_at "r2l"; walk_at "ed"; walk_at "ed")
  | (with_reducible apply el_cb; walk_at "rcl"; walk_at "ea")
  | (with_reducible apply el_sl; walk_at "ed"; walk_at "eo"; walk_at "eo")
  | (with_reducible apply el_call; walk_at "ea")
  | walk_at "el+"
  | (with_reducible apply el_meth; decide; walk_at "ed"; walk_at "ea"))
local macro_rules | `(tactic| walk_at "ed") => `(tactic| first
  | with_reducible exact ed_var | with_reducible exact ed_c
  | (with_reducible apply ed_op; walk_at "r2"; walk_at "ed"; walk_at "ed")
  | (with_reducible apply ed_call; walk_at "ea")
  | (with_reducible apply ed_callX; walk_at "ea")
  | (with_reducible apply ed_tup; walk_at "ea")
  | (with_reducible apply ed_if; walk_at "et"; walk_at "ed"; walk_at "ed")
  | (with_reducible apply ed_cb; walk_at "rc"; walk_at "ea")
  | (with_reducible apply ed_un r_U; walk_at "ed")
  | (with_reducible apply ed_chain; walk_at "r2"; walk_at "r2"; walk_at "ed"; walk_at "ed"; walk_at "ed")
  | (with_reducible apply ed_andV; walk_at "ed"; walk_at "ed") | (with_reducible apply ed_orV; walk_at "ed"; walk_at "ed")
  | (with_reducible apply ed_meth; decide; walk_at "ed"; walk_at "ea")
  | walk_at "ed+"
  | (with_reducible apply EvL.d; walk_at "el"))
local macro_rules | `(tactic| walk_at "svF") => `(tactic| first
  | (with_reducible apply sv_seq; walk_at "svF"; walk_at "svF")
  | (with_reducible apply sv_asg; walk_at "ed")
  | (with_reducible apply sv_if; walk_at "et"; walk_at "svF"; walk_at "svF")
  | (with_reducible apply sv_for; walk_at "ei"; walk_at "es"; walk_at "svF")
  | walk_at "sv")
local macro_rules | `(tactic| walk_at "sv") => `(tactic| first
  | with_reducible exact sv_next | with_reducible exact sv_break | with_reducible exact sv_cont | with_reducible exact sv_never | with_reducible exact sv_retN
  | (with_reducible apply sv_seq; walk_at "sv"; walk_at "sv")
  | (with_reducible apply sv_asgL; walk_at "el")
  | (with_reducible apply sv_asg; walk_at "ed")
  | (with_reducible apply sv_if; walk_at "et"; walk_at "sv"; walk_at "sv")
  | (with_reducible apply sv_for; walk_at "ei"; walk_at "es"; walk_at "sv")
  | (with_reducible apply sv_par; walk_at "ea")
  | (with_reducible apply sv_app; walk_at "ed")
  | (with_reducible apply sv_ret; walk_at "ed")
  | (with_reducible apply sv_asgT; walk_at "ed"; walk_at "es")
  | (with_reducible apply sv_drop; walk_at "ed"))
local macro_rules | `(tactic| walk_at "rc") => `(tactic| first | with_reducible exact r_len | with_reducible exact r_all | with_reducible exact r_max | with_reducible exact r_min)
local macro_rules | `(tactic| walk_at "rcl") => `(tactic| first | with_reducible exact r_list | with_reducible exact r_sort)
local macro_rules | `(tactic| walk_at "el+") => `(tactic| (with_reducible apply el_listRg; walk_at "ed"))
local macro_rules | `(tactic| walk_at "edm") => `(tactic| first | (with_reducible apply ed_index; walk_at "ed"; walk_at "ed") | (with_reducible apply ed_dget2; walk_at "ed"; walk_at "ed"; walk_at "ed") | with_reducible exact ed_disp2 | (with_reducible apply ed_chain; walk_at "r2"; walk_at "r2"; walk_at "ed"; walk_at "ed"; walk_at "ed"))
local macro_rules | `(tactic| walk_at "ed+") => `(tactic| walk_at "edm")
local macro_rules | `(tactic| walk_at "ex") => `(tactic| first | (with_reducible apply ex_callI; walk_at "ea") | (with_reducible apply ex_call; walk_at "ea") | (with_reducible apply ex_opL; walk_at "r2"; walk_at "ex"; walk_at "ed"))
local macro_rules | `(tactic| walk_at "svM") => `(tactic| first
  | (with_reducible apply sv_seq; walk_at "svM"; walk_at "svM")
  | (with_reducible apply sv_ins; walk_at "ed")
  | (with_reducible apply sv_asg; walk_at "ed")
  | (with_reducible apply sv_asgX; walk_at "ex")
  | (with_reducible apply sv_retX; walk_at "ex")
  | (with_reducible apply sv_if; walk_at "et"; walk_at "svM"; walk_at "svM")
  | (with_reducible apply sv_for; walk_at "ei"; walk_at "es"; walk_at "svM")
  | walk_at "sv")
local macro_rules | `(tactic| walk_at "rc") => `(tactic| first | with_reducible exact r_len | with_reducible exact r_lenK | with_reducible exact r_all | with_reducible exact r_max | with_reducible exact r_min | with_reducible exact r_max1 | with_reducible exact r_min1 | with_reducible exact r_int | with_reducible exact r_tup)
local macro_rules | `(tactic| walk_at "ei") => `(tactic| first | (with_reducible apply ei_list; walk_at "ed") | (with_reducible apply ei_tup; walk_at "ed") | (with_reducible apply ei_rng1; walk_at "ea") | (with_reducible apply ei_rng2; walk_at "ea") | (with_reducible apply ei_str; walk_at "ed") | (with_reducible apply ei_en; walk_at "ea"))
local macro_rules | `(tactic| walk_at "edk") => `(tactic| first | (with_reducible apply ed_mk2; walk_at "ea"; walk_at "ea") | (with_reducible apply ed_dget; walk_at "ed"; walk_at "ed") | (with_reducible apply ed_din; walk_at "ed"; walk_at "ed") | (with_reducible apply ed_dnin; walk_at "ed"; walk_at "ed") | walk_at "edm")
local macro_rules | `(tactic| walk_at "ed+") => `(tactic| walk_at "edk")
local macro_rules | `(tactic| walk_at "ek") => `(tactic| first | with_reducible exact ek_new | (focus (with_reducible apply ek_dc; rotate_left; walk_at "ei"; walk_at "eg"; walk_at "et"; walk_at "ed"; walk_at "ed"; decide)))
local macro_rules | `(tactic| walk_at "svN") => `(tactic| first
  | (with_reducible apply sv_seq; walk_at "svN"; walk_at "svN")
  | (with_reducible apply sv_ins; walk_at "ed")
  | (with_reducible apply sv_asgK; walk_at "ek")
  | (with_reducible apply sv_asg; walk_at "ed")
  | (with_reducible apply sv_asgX; walk_at "ex")
  | (with_reducible apply sv_dropX; walk_at "ex")
  | (with_reducible apply sv_retX; walk_at "ex")
  | (with_reducible apply sv_dput; walk_at "ed"; walk_at "ed")
  | (with_reducible apply sv_raise rfl; decide; walk_at "ed")
  | (with_reducible apply sv_if; walk_at "et"; walk_at "svN"; walk_at "svN")
  | (with_reducible apply sv_for; walk_at "ei"; walk_at "es"; walk_at "svN")
  | walk_at "sv")
abbrev sLaw : Stmt := topS 44
abbrev N_law : List Str := ["_law_script", "_law_box_here", "_law_k", "_law_m", "_law_tree_here", "_law_due", "_law_again", "_law_found"]
theorem sc_law : FnScope N_law ["_law_script"] (defScope sLaw) := ⟨rfl, rfl, rfl, by decide +kernel, rfl, by decide +kernel, by decide +kernel⟩
theorem srt_nil : SrtK [] [] := ⟨(fun k hk => nomatch hk), (fun k hk => nomatch hk), List.nodup_nil, List.Pairwise.nil⟩
theorem web_nil {n : Int} (h : 0 ≤ n) : WebK n [] [] := ⟨h, (fun k hk => nomatch hk), (fun k hk => nomatch hk), srt_nil, srt_nil, by decide, by decide⟩
theorem lst_goM (k top : Int) : lstM [.box, .int k, .int top] = M.bnd (M.req (1 ≤ k ∧ k ≤ 20 ∧ 4 ≤ top)) fun _ => M.bnd (M.all fun p : Int × List Ks × List Ks => 1 ≤ p.1 ∧ p.1 ≤ 20 ∧ WebK p.1 p.2.1 p.2.2 ∧ TreeP p.1 p.2.1 ∧ prodL (rowsL p.1 p.2.1 p.2.2) ≤ top) fun p => M.ret (mwD p.1 p.2.1 p.2.2) := rfl
theorem lch_run {n : Int} {A M : List Ks} {Q : D → Prop} (w : WebK n A M) (hn : n ≤ 81) (t : TreeP n A) (hp : prodL (rowsL n A M) ≤ 64) (q : Q (.lst ((chooseL [[]] (rowsL n A M)).map chD))) : (lchM [mwD n A M]).run Q := ⟨(A, M), ⟨rfl, rfl, w, hn, t, hp⟩, q⟩
theorem chs_run {n : Int} {A M : List Ks} {Q : Ry → Prop} (w : WebK n A M) (hn : n ≤ 81) (t : TreeP n A) (hp : prodL (rowsL n A M) ≤ 64) (q : Q (.ok ((chooseL [[]] (rowsL n A M)).map chD))) : (chsM [.web n A M]).run Q := ⟨⟨w, hn⟩, fun b hb => by
  have e : b = true := hb.mpr t
  subst e
  simp only [if_true, if_neg (show ¬ prodL (rowsL n A M) > 64 by omega)]
  exact q⟩
theorem ck_cases {k : Ks} (h : CK k) : AK 128 k ∨ MK 128 k := by
  rcases h with ⟨c, x, y, rfl, h⟩ | ⟨c, x, rfl, h⟩
  · exact .inl ⟨c, x, y, rfl, by omega, by omega, by omega, by omega, by omega⟩
  · exact .inr ⟨c, x, rfl, by omega, by omega, by omega⟩
theorem ck_std {k : Ks} (h : CK k) : (tieD k).std ∧ (tieD k).deep ≤ 1 := (ck_cases h).elim std_tieA std_tieM
/-- choices as they are told -/
structure ChsP (n : Nat) (Cs : List (List Ks)) : Prop where
  len : Cs.length ≤ 64
  all : ∀ c ∈ Cs, c.length = n ∧ ∀ k ∈ c, CK k
theorem chs_p {n : Int} {A M : List Ks} (w : WebK n A M) (hn : n ≤ 81) (hp : prodL (rowsL n A M) ≤ 64) : ChsP n.toNat (chooseL [[]] (rowsL n A M)) := by
  refine ⟨by have := chooseL_len (rowsL n A M); omega, fun c hc => ?_⟩
  obtain ⟨c0, h0, d, rfl, hdl, hk⟩ := choose_mem (P := CK) (fun r hr => (rows_ris w hn r hr).2) hc
  rw [List.mem_singleton.mp h0, List.nil_append]
  refine ⟨?_, hk⟩
  rw [hdl]
  simp only [rowsL, ptsL, List.length_map, List.length_range]
theorem std_ch {c : List Ks} (h : ∀ k ∈ c, CK k) : (chD c).std ∧ (chD c).deep ≤ 2 := by
  have hs : ∀ d ∈ c.map tieD, d.std ∧ d.deep ≤ 1 := fun d hd => by
    obtain ⟨k, hk, rfl⟩ := List.mem_map.mp hd
    exact ck_std (h k hk)
  refine ⟨std_tup (n := 1) (by decide) hs, ?_⟩
  show deepL (c.map tieD) + 1 ≤ 2
  have := deepL_of (l := c.map tieD) (n := 1) fun d hd => (hs d hd).2
  omega
theorem std_chs {n : Nat} {Cs : List (List Ks)} (h : ChsP n Cs) : (D.lst (Cs.map chD)).std := std_lst (n := 2) (by decide) fun d hd => by
  obtain ⟨c, hc, rfl⟩ := List.mem_map.mp hd
  exact std_ch (h.all c hc).2
theorem same_chs {n : Nat} {Cs : List (List Ks)} {Q : D → Prop} (hn : n ≤ 81) (h : ChsP n Cs) (q : Q (.bl true)) : (sameM 3 [.lst (Cs.map chD), .lst (Cs.map chD)]).run Q := by
  have hs : ∀ d ∈ Cs.map chD, d.std ∧ d.deep ≤ 2 := fun d hd => by
    obtain ⟨c, hc, rfl⟩ := List.mem_map.mp hd
    exact std_ch (h.all c hc).2
  have dA : deepL (Cs.map chD) ≤ 2 := deepL_of fun d hd => (hs d hd).2
  have pA : plainL (Cs.map chD) = true := plainL_of fun d hd => (hs d hd).1.1.1
  have tA : thinL (Cs.map chD) = true := thinL_of fun d hd => by
    obtain ⟨c, hc, rfl⟩ := List.mem_map.mp hd
    obtain ⟨h1, h2⟩ := h.all c hc
    have tt : thinL (c.map tieD) = true := thinL_of fun d hd => by
      obtain ⟨k, hk, rfl⟩ := List.mem_map.mp hd
      rcases h2 k hk with ⟨c, x, y, rfl, _⟩ | ⟨c, x, rfl, _⟩
      · simp [tieD, kDd, D.thin, thinL]
      · simp [tieD, kDd, D.thin, thinL]
    show (D.tup (c.map tieD)).thin = true
    simp only [D.thin, tt, List.length_map, decide_eq_true (show c.length ≤ 100000 by omega)]
    rfl
  have ll := h.len
  refine ⟨⟨rfl, ?_, ?_, ?_⟩, q⟩
  · simp only [D.deep]
    omega
  · simp only [D.plain, pA]
  · simp only [D.thin, tA, List.length_map, decide_eq_true (show Cs.length ≤ 100000 by omega)]
    rfl
theorem tree_1 : TreeP 1 [] := ⟨rfl, fun p hp => by
  obtain rfl : p = 0 := by omega
  exact .rf _⟩
abbrev kQ0 : Ks := [.inr ⟨#[113]⟩, .inl 0]
theorem km_q : ∀ k ∈ [kQ0], MK 1 k := fun k hk => by
  rw [List.mem_singleton.mp hk]
  exact ⟨113, 0, rfl, .inr (.inl rfl), by decide, by decide⟩
theorem web_q : WebK 1 [] [kQ0] := ⟨by decide, (fun k hk => nomatch hk), km_q, srt_nil, srt_one _, by decide, by decide⟩
theorem gd_q : GoodW 1 [] [kQ0] := ⟨by decide, by decide, (fun k hk => nomatch hk), km_q, by decide, by decide⟩
theorem srt_oneU {k : Ks} {u : List Ks} (h : SrtK [k] u) : u = [k] := by
  have h1 := h.all k (List.mem_singleton.mpr rfl)
  match u, h, h1 with
  | [a], h, _ => rw [List.mem_singleton.mp (h.of a (List.mem_singleton.mpr rfl))]
  | a :: b :: r, h, _ =>
    have e1 := List.mem_singleton.mp (h.of a (List.mem_cons_self ..))
    have e2 := List.mem_singleton.mp (h.of b (List.mem_cons_of_mem _ (List.mem_cons_self ..)))
    have nd := (List.nodup_cons.mp h.nd).1
    rw [e1, e2] at nd
    exact absurd (List.mem_cons_self ..) nd
section
variable {P : Program} {w : World} {K : PySem.W.Frag} {mg : Str → Option Value} {base : Heap} {C : Addr} {T : List (Addr × Str)} {cls : Str → Addr}
local macro_rules | `(tactic| walk_at "rcl") => `(tactic| first | with_reducible exact r_list | with_reducible exact r_sortC)
local macro_rules | `(tactic| walk_at "ed+") => `(tactic| first | (with_reducible apply ed_callY; walk_at "ea") | (with_reducible apply ed_mkMk; assumption; walk_at "ea"; walk_at "ea") | (with_reducible apply ed_mk0; assumption; assumption; walk_at "ea") | walk_at "edk")
local macro_rules | `(tactic| walk_at "svK") => `(tactic| first
  | (with_reducible apply sv_seq; walk_at "svK"; walk_at "svK")
  | (with_reducible apply sv_asgY; walk_at "ea")
  | (with_reducible apply sv_asg; walk_at "ed")
  | (with_reducible apply sv_app; walk_at "ed")
  | with_reducible exact sv_rev
  | (with_reducible apply sv_if; walk_at "et"; walk_at "svK"; walk_at "svK")
  | (with_reducible apply sv_for; walk_at "ei"; walk_at "es"; walk_at "svK")
  | walk_at "sv")
def spLaw (K : PySem.W.Frag) : Sp := fun vs H Q _ => ∃ (a : Addr) (ns : List Int), vs = [.ref a] ∧ SqL K H a (ns.map V.int) ∧ ns.length ≤ 63 ∧ ∀ H', Q (.bl true) H'
set_option maxHeartbeats 8000000 in
theorem ok_law {f fB fM fS fTr fLc fY fN ta tm : Addr} {fd dB dM dS dTr dLc dY dN : FuncData} (F : Fun K "law" "law" sLaw f fd) (b : Bq mg) (bS : mg "sorted" = none)
    (gW : mg "Web" = some (.ref C)) (Mq : Mk K C fN) (FI : FunD K "__init__" "Web.__init__" (defArgs sInit) (defBody sInit) (defScope sInit) [] [("arrows", .ref ta), ("marks", .ref tm)] fN dN) (oN : FnOk P w K mg base CX0 2 fN dN psI (spInit K C)) (ea : ∀ H, SqT K H ta []) (em : ∀ H, SqT K H tm [])
    (oB : Df P w K mg base 1 "_law_box" ["_law_script"] (spBox K) fB dB) (oM : Df P w K mg base 4 "_law_made" ["_law_m"] (spD (mkS K C [] cls) madeM) fM dM) (oS : Df P w K mg base 4 "_law_same" ["_law_found", "_law_due"] (spD (mkS K C [] cls) (sameM 3)) fS dS) (oTr : Df P w K mg base 8 "_law_small_tree" ["_law_box_here", "_law_most", "_law_top"] (spD (mkS K C [] cls) lstM) fTr dTr) (oLc : Df P w K mg base 3 "_law_choices" ["_law_m"] (spD (mkS K C [] cls) lchM) fLc dLc)
    (oY : DfX P w K mg base 11 "choices" ["tree"] (spY (mkS K C [] cls) chsM) fY dY) : FnOk P w K mg base CX0 14 f fd ["_law_script"] (spLaw K) := by
  obtain ⟨ds0, rv0, bd0⟩ := bd_pos FI
  obtain ⟨mv6, k6⟩ := kb6 FI
  refine F.ok sc_law (fun vs H Q E h => ?_) (fun cdv A outer s H vs Q E hr h => ?_)
  · obtain ⟨a, ns, rfl, _⟩ := h
    rfl
  · obtain ⟨a, ns, rfl, hS, hlen, KQ⟩ := h
    have hu5 : (A.deeper (envOfC "law" (defScope sLaw) s.heap.objs.size f cdv)).units + 65 < cLine := by
      have := hr.un
      omega
    have hu : (A.deeper (envOfC "law" (defScope sLaw) s.heap.objs.size f cdv)).units + 64 < cLine := by omega
    have hu1 : (A.deeper (envOfC "law" (defScope sLaw) s.heap.objs.size f cdv)).units + 1 < cLine := by omega
    refine ⟨_, (pss_cons (ps_set (i := 1) sc_law.nd rfl (.inl rfl) (pe_call oB.ok (hr.mono (by decide)) (by rfl) oB.gl oB.kp oB.bd .nil pass0 (pa_cons (pv 0) pa_nil)))
      (pss_cons (ps_for PassesOwn.never rfl (pi_range1 (by rfl) b.range (pa_cons pe_int pa_nil)) (pg_name (i := 2) sc_law.nd rfl (.inl rfl))
      (pss_cons (ps_set (i := 3) sc_law.nd rfl (.inl rfl) (pe_call oTr.ok (hr.mono (by decide)) (by rfl) oTr.gl oTr.kp oTr.bd .nil pass0 (pa_cons (pv 1) (pa_cons pe_int (pa_cons pe_int pa_nil)))))
      (pss_cons (ps_set (i := 4) sc_law.nd rfl (.inl rfl) (pe_call oM.ok (hr.mono (by decide)) (by rfl) oM.gl oM.kp oM.bd .nil pass0 (pa_cons (pv 3) pa_nil)))
      (pss_cons (ps_set (i := 5) sc_law.nd rfl (.inl rfl) (pe_call oLc.ok (hr.mono (by decide)) (by rfl) oLc.gl oLc.kp oLc.bd .nil pass0 (pa_cons (pv 3) pa_nil)))
      (pss_cons (ps_if (pt_cmpR (dv_ne (K := K) rfl hu) (pv 5) (pe_callB (cr_sortC (K := K) rfl hu) (by rfl) bS (by decide +kernel) (pa_cons (pv 5) pa_nil)) (nomark _)) (pss_one ps_never) pss_nil)
      (pss_one (ps_for PassesOwn.never rfl (pi_range1 (by rfl) b.range (pa_cons pe_int pa_nil)) (pg_name (i := 6) sc_law.nd rfl (.inl rfl))
      (pss_cons (ps_set (i := 7) sc_law.nd rfl (.inl rfl) (pe_call oY.ok (hr.mono (by decide)) (by rfl) oY.gl oY.kp oY.bd .nil passL (pa_cons (pv 4) pa_nil)))
      (pss_cons (ps_if (pt_not (pt_val (pe_call oS.ok (hr.mono (by decide)) (by rfl) oS.gl oS.kp oS.bd .nil pass0 (pa_cons (pv 7) (pa_cons (pv 5) pa_nil))))) (pss_one ps_never) pss_nil)
      (pss_cons (ps_expr (pe_bmK (K := K) rfl PySem.F.plainAttrs_list PySem.F.slot_list_append PySem.F.type_list_append mt_append (pv 7) (pa_cons (pe_tup pa_nil) pa_nil)))
      (pss_one (ps_expr (pe_bm0Q (K := K) rfl PySem.F.plainAttrs_list PySem.F.slot_list_reverse PySem.F.type_list_reverse mt_reverse (pv 7))))))))))))))
      (pss_one (ps_ret (pe_and (pe_cmpR (dv_eq (K := K) rfl hu) (pe_call oY.ok (hr.mono (by decide)) (by rfl) oY.gl oY.kp oY.bd .nil passL (pa_cons (pe_make Mq oN (hr.mono (by decide)) (by rfl) gW bd0 rv0 pass0 (pa_cons pe_int pa_nil)) pa_nil)) (pe_lst pa_nil) (nomark _)) (pe_one (pe_cmpR (dv_eq (K := K) rfl hu) (pe_call oY.ok (hr.mono (by decide)) (by rfl) oY.gl oY.kp oY.bd .nil passL (pa_cons (pe_makeK Mq oN (hr.mono (by decide)) (by rfl) gW k6 pass0 (pa_cons pe_int pa_nil) (pk_cons (pe_lst (pa_cons (pe_tup (pa_cons pe_str (pa_cons pe_int pa_nil))) pa_nil)) pk_nil)) pa_nil)) (pe_lst (pa_cons (pe_tup (pa_cons (pe_tup (pa_cons pe_str (pa_cons pe_int pa_nil))) pa_nil)) pa_nil)) (nomark _)))))))), ?_⟩
    refine seq_set ⟨_, rfl, a, ns, rfl, hS, hlen, fun bx q H1 nb B1 s1 => ?_⟩
    refine law_go (n := 6) (S := mkS K C [] cls) (X := E) (by walk_at "svK") B1 (fun p hp => nomatch hp) ?_ KQ
    have e0 : (none :: some (.f .box) :: List.replicate 6 none : Ev) = [none, some (.f .box), none, none, none, none, none, none] := rfl
    rw [e0]
    simp only [run_bnd, run_ret, run_opt, run_req, run_all, run_choose, run_ite, then_nx, then_rt, then_rl, then_er, then_ct, then_bk, outD_rt, outD_rl, outD_nx, outL_rl, outX_rt, outX_rl, outX_nx, outX_er, mask_nil, mask_cons, mk0_f, mk0_o, mk0_od, mk0_ot, mk0_n, peek_nil, peek_cons, pk_f, pk_o, pk_od, pk_ot, pk_n, dOf_int, dOf_bl, dOf_str, dOf_non, opI0_int, opI_int, unI_int, asB_bl, asI_int, asL_lst, asT_tup, asW_web, eqS_int, eqS_str, ixL_lst, ixT_tup, ixQ_lst, ixQ_tup, lenD_lst, lenD_tup, listD_lst, listD_tup, catD_lst, rng1_int, rng2_int, sName_go, sTup_go, sCons_go, sNil_go, bTup_go, bCons_go, bNil_go, two_go, List.set_cons_zero, List.set_cons_succ, List.getElem?_cons_zero, List.getElem?_cons_succ, Option.join_some, atI_0, atI_1, atI_2, decide_eq_true_eq, wipeE, List.map_cons, List.map_nil, step_nx, step_ct, step_bk, step_rt, step_rl, step_er, vOf_int, vOf_str]
    refine ⟨by decide, ?_⟩
    refine loop_run (fun i ρ => ∃ y2 y3 y4 y5 y6 y7, ρ = [none, some (.f .box), y2, y3, y4, y5, y6, y7]) ⟨_, _, _, _, _, _, rfl⟩ ?_ ?_
    · rintro i h ρ ⟨y2, y3, y4, y5, y6, y7, rfl⟩
      simp only [sName_go, run_ret, List.set_cons_zero, List.set_cons_succ]
      refine seq_cut (fun ρ => ∃ n A M z2, ρ = [none, some (.f .box), z2, some (.f (mwD n A M)), y4, y5, y6, y7] ∧ 1 ≤ n ∧ n ≤ 20 ∧ WebK n A M ∧ TreeP n A ∧ prodL (rowsL n A M) ≤ 64) ?_ ?_
      · simp only [lst_goM, run_bnd, run_ret, run_opt, run_req, run_all, run_choose, run_ite, then_nx, then_rt, then_rl, then_er, then_ct, then_bk, outD_rt, outD_rl, outD_nx, outL_rl, outX_rt, outX_rl, outX_nx, outX_er, mask_nil, mask_cons, mk0_f, mk0_o, mk0_od, mk0_ot, mk0_n, peek_nil, peek_cons, pk_f, pk_o, pk_od, pk_ot, pk_n, dOf_int, dOf_bl, dOf_str, dOf_non, opI0_int, opI_int, unI_int, asB_bl, asI_int, asL_lst, asT_tup, asW_web, eqS_int, eqS_str, ixL_lst, ixT_tup, ixQ_lst, ixQ_tup, lenD_lst, lenD_tup, listD_lst, listD_tup, catD_lst, rng1_int, rng2_int, sName_go, sTup_go, sCons_go, sNil_go, bTup_go, bCons_go, bNil_go, two_go, List.set_cons_zero, List.set_cons_succ, List.getElem?_cons_zero, List.getElem?_cons_succ, Option.join_some, atI_0, atI_1, atI_2, decide_eq_true_eq, wipeE, List.map_cons, List.map_nil, step_nx, step_ct, step_bk, step_rt, step_rl, step_er, vOf_int, vOf_str]
        refine ⟨by decide, fun ⟨n, A, M⟩ ⟨a1, b1, w, t, hp⟩ => ?_⟩
        exact ⟨_, rfl, n, A, M, _, rfl, a1, b1, w, t, hp⟩
      rintro ρ ⟨n, A, M, z2, rfl, n1, n20, w, tr, hp⟩
      have em : mwD n A M = .tup [.int n, .lst (A.map tieD), .lst (M.map tieD)] := rfl
      have cp := chs_p w (by omega) hp
      have cs : ∀ {u : List (List Ks)}, u.Perm (chooseL [[]] (rowsL n A M)) → u.Pairwise (fun a b => cc a ≤ cc b) → u = chooseL [[]] (rowsL n A M) := fun h1 h2 => choose_srt w (by omega) h1 h2
      have run1 : ∀ {Q : D → Prop}, Q (.lst ((chooseL [[]] (rowsL n A M)).map chD)) → (lchM [mwD n A M]).run Q := fun q => lch_run w (by omega) tr hp q
      have run2 : ∀ {Q : Ry → Prop}, Q (.ok ((chooseL [[]] (rowsL n A M)).map chD)) → (chsM [.web n A M]).run Q := fun q => chs_run w (by omega) tr hp q
      generalize chooseL [[]] (rowsL n A M) = Cs at cp cs run1 run2
      refine seq_cut (fun ρ => ρ = [none, some (.f .box), z2, some (.f (mwD n A M)), some (.f (.web n A M)), y5, y6, y7]) ?_ ?_
      · simp only [run_bnd, run_ret, run_opt, run_req, run_all, run_choose, run_ite, then_nx, then_rt, then_rl, then_er, then_ct, then_bk, outD_rt, outD_rl, outD_nx, outL_rl, outX_rt, outX_rl, outX_nx, outX_er, mask_nil, mask_cons, mk0_f, mk0_o, mk0_od, mk0_ot, mk0_n, peek_nil, peek_cons, pk_f, pk_o, pk_od, pk_ot, pk_n, dOf_int, dOf_bl, dOf_str, dOf_non, opI0_int, opI_int, unI_int, asB_bl, asI_int, asL_lst, asT_tup, asW_web, eqS_int, eqS_str, ixL_lst, ixT_tup, ixQ_lst, ixQ_tup, lenD_lst, lenD_tup, listD_lst, listD_tup, catD_lst, rng1_int, rng2_int, sName_go, sTup_go, sCons_go, sNil_go, bTup_go, bCons_go, bNil_go, two_go, List.set_cons_zero, List.set_cons_succ, List.getElem?_cons_zero, List.getElem?_cons_succ, Option.join_some, atI_0, atI_1, atI_2, decide_eq_true_eq, wipeE, List.map_cons, List.map_nil, step_nx, step_ct, step_bk, step_rt, step_rl, step_er, vOf_int, vOf_str]
        exact made_go w (by omega) ⟨_, rfl, rfl⟩
      rintro ρ rfl
      refine seq_cut (fun ρ => ρ = [none, some (.f .box), z2, some (.f (mwD n A M)), some (.f (.web n A M)), some (.f (.lst (Cs.map chD))), y6, y7]) ?_ ?_
      · simp only [run_bnd, run_ret, run_opt, run_req, run_all, run_choose, run_ite, then_nx, then_rt, then_rl, then_er, then_ct, then_bk, outD_rt, outD_rl, outD_nx, outL_rl, outX_rt, outX_rl, outX_nx, outX_er, mask_nil, mask_cons, mk0_f, mk0_o, mk0_od, mk0_ot, mk0_n, peek_nil, peek_cons, pk_f, pk_o, pk_od, pk_ot, pk_n, dOf_int, dOf_bl, dOf_str, dOf_non, opI0_int, opI_int, unI_int, asB_bl, asI_int, asL_lst, asT_tup, asW_web, eqS_int, eqS_str, ixL_lst, ixT_tup, ixQ_lst, ixQ_tup, lenD_lst, lenD_tup, listD_lst, listD_tup, catD_lst, rng1_int, rng2_int, sName_go, sTup_go, sCons_go, sNil_go, bTup_go, bCons_go, bNil_go, two_go, List.set_cons_zero, List.set_cons_succ, List.getElem?_cons_zero, List.getElem?_cons_succ, Option.join_some, atI_0, atI_1, atI_2, decide_eq_true_eq, wipeE, List.map_cons, List.map_nil, step_nx, step_ct, step_bk, step_rt, step_rl, step_er, vOf_int, vOf_str]
        exact run1 ⟨_, rfl, rfl⟩
      rintro ρ rfl
      have sd := std_chs cp
      have ee : eqD (.lst (Cs.map chD)) (.lst (Cs.map chD)) = true := (eqD_iff sd sd).mpr rfl
      have cl := cp.len
      refine seq_cut (fun ρ => ρ = [none, some (.f .box), z2, some (.f (mwD n A M)), some (.f (.web n A M)), some (.f (.lst (Cs.map chD))), y6, y7]) ?_ ?_
      · simp only [srtC_go, run_bnd, run_ret, run_opt, run_req, run_all, run_choose, run_ite, then_nx, then_rt, then_rl, then_er, then_ct, then_bk, outD_rt, outD_rl, outD_nx, outL_rl, outX_rt, outX_rl, outX_nx, outX_er, mask_nil, mask_cons, mk0_f, mk0_o, mk0_od, mk0_ot, mk0_n, peek_nil, peek_cons, pk_f, pk_o, pk_od, pk_ot, pk_n, dOf_int, dOf_bl, dOf_str, dOf_non, opI0_int, opI_int, unI_int, asB_bl, asI_int, asL_lst, asT_tup, asW_web, eqS_int, eqS_str, ixL_lst, ixT_tup, ixQ_lst, ixQ_tup, lenD_lst, lenD_tup, listD_lst, listD_tup, catD_lst, rng1_int, rng2_int, sName_go, sTup_go, sCons_go, sNil_go, bTup_go, bCons_go, bNil_go, two_go, List.set_cons_zero, List.set_cons_succ, List.getElem?_cons_zero, List.getElem?_cons_succ, Option.join_some, atI_0, atI_1, atI_2, decide_eq_true_eq, wipeE, List.map_cons, List.map_nil, step_nx, step_ct, step_bk, step_rt, step_rl, step_er, vOf_int, vOf_str]
        refine ⟨(Cs, n.toNat), ⟨rfl, by dsimp only; omega, cp.all, by dsimp only; omega⟩, fun u hu => ?_⟩
        have e9 := cs hu.1 hu.2
        subst e9
        refine ⟨⟨sd.1, sd.1⟩, ?_⟩
        rw [ee]
        simp only [Bool.not_true, Bool.false_eq_true, if_false, run_bnd, run_ret, run_opt, run_req, run_all, run_choose, run_ite, then_nx, then_rt, then_rl, then_er, then_ct, then_bk, outD_rt, outD_rl, outD_nx, outL_rl, outX_rt, outX_rl, outX_nx, outX_er, mask_nil, mask_cons, mk0_f, mk0_o, mk0_od, mk0_ot, mk0_n, peek_nil, peek_cons, pk_f, pk_o, pk_od, pk_ot, pk_n, dOf_int, dOf_bl, dOf_str, dOf_non, opI0_int, opI_int, unI_int, asB_bl, asI_int, asL_lst, asT_tup, asW_web, eqS_int, eqS_str, ixL_lst, ixT_tup, ixQ_lst, ixQ_tup, lenD_lst, lenD_tup, listD_lst, listD_tup, catD_lst, rng1_int, rng2_int, sName_go, sTup_go, sCons_go, sNil_go, bTup_go, bCons_go, bNil_go, two_go, List.set_cons_zero, List.set_cons_succ, List.getElem?_cons_zero, List.getElem?_cons_succ, Option.join_some, atI_0, atI_1, atI_2, decide_eq_true_eq, wipeE, List.map_cons, List.map_nil, step_nx, step_ct, step_bk, step_rt, step_rl, step_er, vOf_int, vOf_str]
        exact ⟨_, rfl, rfl⟩
      rintro ρ rfl
      simp only [run_bnd, run_ret, run_opt, run_req, run_all, run_choose, run_ite, then_nx, then_rt, then_rl, then_er, then_ct, then_bk, outD_rt, outD_rl, outD_nx, outL_rl, outX_rt, outX_rl, outX_nx, outX_er, mask_nil, mask_cons, mk0_f, mk0_o, mk0_od, mk0_ot, mk0_n, peek_nil, peek_cons, pk_f, pk_o, pk_od, pk_ot, pk_n, dOf_int, dOf_bl, dOf_str, dOf_non, opI0_int, opI_int, unI_int, asB_bl, asI_int, asL_lst, asT_tup, asW_web, eqS_int, eqS_str, ixL_lst, ixT_tup, ixQ_lst, ixQ_tup, lenD_lst, lenD_tup, listD_lst, listD_tup, catD_lst, rng1_int, rng2_int, sName_go, sTup_go, sCons_go, sNil_go, bTup_go, bCons_go, bNil_go, two_go, List.set_cons_zero, List.set_cons_succ, List.getElem?_cons_zero, List.getElem?_cons_succ, Option.join_some, atI_0, atI_1, atI_2, decide_eq_true_eq, wipeE, List.map_cons, List.map_nil, step_nx, step_ct, step_bk, step_rt, step_rl, step_er, vOf_int, vOf_str]
      refine ⟨by decide, ?_⟩
      refine loop_run (fun i ρ => ∃ z6 z7, ρ = [none, some (.f .box), z2, some (.f (mwD n A M)), some (.f (.web n A M)), some (.f (.lst (Cs.map chD))), z6, z7]) ⟨_, _, rfl⟩ ?_ ?_
      · rintro j hj ρ ⟨z6, z7, rfl⟩
        simp only [run_bnd, run_ret, run_opt, run_req, run_all, run_choose, run_ite, then_nx, then_rt, then_rl, then_er, then_ct, then_bk, outD_rt, outD_rl, outD_nx, outL_rl, outX_rt, outX_rl, outX_nx, outX_er, mask_nil, mask_cons, mk0_f, mk0_o, mk0_od, mk0_ot, mk0_n, peek_nil, peek_cons, pk_f, pk_o, pk_od, pk_ot, pk_n, dOf_int, dOf_bl, dOf_str, dOf_non, opI0_int, opI_int, unI_int, asB_bl, asI_int, asL_lst, asT_tup, asW_web, eqS_int, eqS_str, ixL_lst, ixT_tup, ixQ_lst, ixQ_tup, lenD_lst, lenD_tup, listD_lst, listD_tup, catD_lst, rng1_int, rng2_int, sName_go, sTup_go, sCons_go, sNil_go, bTup_go, bCons_go, bNil_go, two_go, List.set_cons_zero, List.set_cons_succ, List.getElem?_cons_zero, List.getElem?_cons_succ, Option.join_some, atI_0, atI_1, atI_2, decide_eq_true_eq, wipeE, List.map_cons, List.map_nil, step_nx, step_ct, step_bk, step_rt, step_rl, step_er, vOf_int, vOf_str]
        refine run2 ?_
        simp only [okY_go, run_bnd, run_ret, run_opt, run_req, run_all, run_choose, run_ite, then_nx, then_rt, then_rl, then_er, then_ct, then_bk, outD_rt, outD_rl, outD_nx, outL_rl, outX_rt, outX_rl, outX_nx, outX_er, mask_nil, mask_cons, mk0_f, mk0_o, mk0_od, mk0_ot, mk0_n, peek_nil, peek_cons, pk_f, pk_o, pk_od, pk_ot, pk_n, dOf_int, dOf_bl, dOf_str, dOf_non, opI0_int, opI_int, unI_int, asB_bl, asI_int, asL_lst, asT_tup, asW_web, eqS_int, eqS_str, ixL_lst, ixT_tup, ixQ_lst, ixQ_tup, lenD_lst, lenD_tup, listD_lst, listD_tup, catD_lst, rng1_int, rng2_int, sName_go, sTup_go, sCons_go, sNil_go, bTup_go, bCons_go, bNil_go, two_go, List.set_cons_zero, List.set_cons_succ, List.getElem?_cons_zero, List.getElem?_cons_succ, Option.join_some, atI_0, atI_1, atI_2, decide_eq_true_eq, wipeE, List.map_cons, List.map_nil, step_nx, step_ct, step_bk, step_rt, step_rl, step_er, vOf_int, vOf_str]
        refine same_chs (by omega) cp ?_
        simp only [Bool.not_true, Bool.false_eq_true, if_false, own_0, own_S, run_bnd, run_ret, run_opt, run_req, run_all, run_choose, run_ite, then_nx, then_rt, then_rl, then_er, then_ct, then_bk, outD_rt, outD_rl, outD_nx, outL_rl, outX_rt, outX_rl, outX_nx, outX_er, mask_nil, mask_cons, mk0_f, mk0_o, mk0_od, mk0_ot, mk0_n, peek_nil, peek_cons, pk_f, pk_o, pk_od, pk_ot, pk_n, dOf_int, dOf_bl, dOf_str, dOf_non, opI0_int, opI_int, unI_int, asB_bl, asI_int, asL_lst, asT_tup, asW_web, eqS_int, eqS_str, ixL_lst, ixT_tup, ixQ_lst, ixQ_tup, lenD_lst, lenD_tup, listD_lst, listD_tup, catD_lst, rng1_int, rng2_int, sName_go, sTup_go, sCons_go, sNil_go, bTup_go, bCons_go, bNil_go, two_go, List.set_cons_zero, List.set_cons_succ, List.getElem?_cons_zero, List.getElem?_cons_succ, Option.join_some, atI_0, atI_1, atI_2, decide_eq_true_eq, wipeE, List.map_cons, List.map_nil, step_nx, step_ct, step_bk, step_rt, step_rl, step_er, vOf_int, vOf_str, List.length_map]
        exact ⟨by omega, by show 0 ≤ 100000; decide, _, _, rfl⟩
      · rintro ρ ⟨z6, z7, rfl⟩
        exact ⟨_, _, _, _, _, _, rfl⟩
    · rintro ρ ⟨y2, y3, y4, y5, y6, y7, rfl⟩
      simp only [mk0M_go, run_bnd, run_ret, run_opt, run_req, run_all, run_choose, run_ite, then_nx, then_rt, then_rl, then_er, then_ct, then_bk, outD_rt, outD_rl, outD_nx, outL_rl, outX_rt, outX_rl, outX_nx, outX_er, mask_nil, mask_cons, mk0_f, mk0_o, mk0_od, mk0_ot, mk0_n, peek_nil, peek_cons, pk_f, pk_o, pk_od, pk_ot, pk_n, dOf_int, dOf_bl, dOf_str, dOf_non, opI0_int, opI_int, unI_int, asB_bl, asI_int, asL_lst, asT_tup, asW_web, eqS_int, eqS_str, ixL_lst, ixT_tup, ixQ_lst, ixQ_tup, lenD_lst, lenD_tup, listD_lst, listD_tup, catD_lst, rng1_int, rng2_int, sName_go, sTup_go, sCons_go, sNil_go, bTup_go, bCons_go, bNil_go, two_go, List.set_cons_zero, List.set_cons_succ, List.getElem?_cons_zero, List.getElem?_cons_succ, Option.join_some, atI_0, atI_1, atI_2, decide_eq_true_eq, wipeE, List.map_cons, List.map_nil, step_nx, step_ct, step_bk, step_rt, step_rl, step_er, vOf_int, vOf_str]
      have z0 : (D.lst []).std := std_ints []
      have q0 : eqD (.lst []) (.lst []) = true := (eqD_iff z0 z0).mpr rfl
      have c0 : chooseL [[]] (rowsL 1 [] []) = [] := rfl
      have p0 : prodL (rowsL 1 [] []) = 0 := rfl
      have c1 : chooseL [[]] (rowsL 1 [] [kQ0]) = [[kQ0]] := rfl
      have p1 : prodL (rowsL 1 [] [kQ0]) = 1 := rfl
      refine ⟨by decide, chs_run (web_nil (by decide)) (by decide) tree_1 (by rw [p0]; decide) ?_⟩
      rw [c0]
      refine ⟨by show 0 ≤ 100000; decide, ⟨z0.1, z0.1⟩, ?_⟩
      simp only [List.map_nil, q0, if_true]
      refine ⟨by show 2 ≤ 100000; decide, by show 1 ≤ 100000; decide, [kQ0], ⟨rfl, gd_q⟩, fun u hu => ?_⟩
      rw [srt_oneU hu]
      refine chs_run web_q (by decide) tree_1 (by rw [p1]; decide) ?_
      rw [c1]
      have sq : (D.lst (([[kQ0]] : List (List Ks)).map chD)).std := std_chs (n := 1) ⟨by decide, fun c hc => by
        rw [List.mem_singleton.mp hc]
        exact ⟨rfl, fun k hk => by
          rw [List.mem_singleton.mp hk]
          exact ck_m (km_q _ (List.mem_singleton.mpr rfl)) (by decide)⟩⟩
      refine ⟨by show 2 ≤ 100000; decide, by show 1 ≤ 100000; decide, by show 1 ≤ 100000; decide, ⟨sq.1, sq.1⟩, ?_⟩
      have qq := (eqD_iff sq sq).mpr rfl
      exact congrArg (fun b => Ou.rt (D.bl b)) qq
end
end Dv
namespace Wb
open PySem PySem.Spec PyProof.Rows L2 RZ Sg Tm
open Dv (sLaw sOEnd sIsTree sHang sRNT sRGW sChoices s_law_moved s_law_numbered s_law_tree s_law_ties s_law_size s_law_small_tree s_law_choices spLaw)
def clsF (a b : Addr) (x : Str) : Addr := if x = "NotTree" then a else b
theorem clsF_n {a b : Addr} : clsF a b "NotTree" = a := if_pos rfl
theorem clsF_t {a b : Addr} : clsF a b "TooMany" = b := if_neg (by decide)
def fI (K : PySem.W.Frag) (C : Addr) (x : Str) (v : Option Value) : Bool := decide (PySem.W.findIn K (.ref C) x = some v)
theorem nd {K : PySem.W.Frag} {C : Addr} {x : Str} (h : fI K C x none = true) : NoAttr K C x := (of_decide_eq_true h : PySem.W.findIn K (.ref C) x = some none)
theorem all_get {l : List Bool} (h : l.all id = true) (n : Nat) {b : Bool} (e : l[n]? = some b) : b = true := List.all_eq_true.mp h b (List.mem_of_getElem? e)
set_option maxHeartbeats 4000000 in
theorem all_mk {l : PySem.W.OpenLaw} {w : World} {K : PySem.W.Frag} {h : Heap} {mg : Str → Option Value} {fa : Addr} {f_sRA : Addr}
    {oc_sRA kV_sRA dc_sRA pm_sRA cd_sRA ct_sRA : Value} {od_sRA an_sRA : Option Addr} {sl_sRA : Array (Option Value)}
    {f_sRM : Addr}
    {oc_sRM kV_sRM dc_sRM pm_sRM cd_sRM ct_sRM : Value} {od_sRM an_sRM : Option Addr} {sl_sRM : Array (Option Value)}
    {f_sGat : Addr}
    {oc_sGat kV_sGat dc_sGat pm_sGat cd_sGat ct_sGat : Value} {od_sGat an_sGat : Option Addr} {sl_sGat : Array (Option Value)}
    {f_sBox : Addr}
    {oc_sBox kV_sBox dc_sBox pm_sBox cd_sBox ct_sBox : Value} {od_sBox an_sBox : Option Addr} {sl_sBox : Array (Option Value)}
    {f_sTake : Addr}
    {oc_sTake kV_sTake dc_sTake pm_sTake cd_sTake ct_sTake : Value} {od_sTake an_sTake : Option Addr} {sl_sTake : Array (Option Value)}
    {f_sOne : Addr}
    {oc_sOne kV_sOne dc_sOne pm_sOne cd_sOne ct_sOne : Value} {od_sOne an_sOne : Option Addr} {sl_sOne : Array (Option Value)}
    {f_sMixed : Addr}
    {oc_sMixed kV_sMixed dc_sMixed pm_sMixed cd_sMixed ct_sMixed : Value} {od_sMixed an_sMixed : Option Addr} {sl_sMixed : Array (Option Value)}
    {f_sSame : Addr}
    {oc_sSame kV_sSame dc_sSame pm_sSame cd_sSame ct_sSame : Value} {od_sSame an_sSame : Option Addr} {sl_sSame : Array (Option Value)}
    {f_sUnlike : Addr}
    {oc_sUnlike kV_sUnlike dc_sUnlike pm_sUnlike cd_sUnlike ct_sUnlike : Value} {od_sUnlike an_sUnlike : Option Addr} {sl_sUnlike : Array (Option Value)}
    {f_sHue : Addr}
    {oc_sHue kV_sHue dc_sHue pm_sHue cd_sHue ct_sHue : Value} {od_sHue an_sHue : Option Addr} {sl_sHue : Array (Option Value)}
    {f_sSign : Addr}
    {oc_sSign kV_sSign dc_sSign pm_sSign cd_sSign ct_sSign : Value} {od_sSign an_sSign : Option Addr} {sl_sSign : Array (Option Value)}
    {f_sMade : Addr}
    {oc_sMade kV_sMade dc_sMade pm_sMade cd_sMade ct_sMade : Value} {od_sMade an_sMade : Option Addr} {sl_sMade : Array (Option Value)}
    {f_sOEnd : Addr}
    {oc_sOEnd kV_sOEnd dc_sOEnd pm_sOEnd cd_sOEnd ct_sOEnd : Value} {od_sOEnd an_sOEnd : Option Addr} {sl_sOEnd : Array (Option Value)}
    {f_sIsTree : Addr}
    {oc_sIsTree kV_sIsTree dc_sIsTree pm_sIsTree cd_sIsTree ct_sIsTree : Value} {od_sIsTree an_sIsTree : Option Addr} {sl_sIsTree : Array (Option Value)}
    {f_sTieR : Addr}
    {oc_sTieR kV_sTieR dc_sTieR pm_sTieR cd_sTieR ct_sTieR : Value} {od_sTieR an_sTieR : Option Addr} {sl_sTieR : Array (Option Value)}
    {f_sHang : Addr}
    {oc_sHang kV_sHang dc_sHang pm_sHang cd_sHang ct_sHang : Value} {od_sHang an_sHang : Option Addr} {sl_sHang : Array (Option Value)}
    {f_sRNT : Addr}
    {oc_sRNT kV_sRNT dc_sRNT pm_sRNT cd_sRNT ct_sRNT : Value} {od_sRNT an_sRNT : Option Addr} {sl_sRNT : Array (Option Value)}
    {f_sRGW : Addr}
    {oc_sRGW kV_sRGW dc_sRGW pm_sRGW cd_sRGW ct_sRGW : Value} {od_sRGW an_sRGW : Option Addr} {sl_sRGW : Array (Option Value)}
    {f_sChoices : Addr}
    {oc_sChoices kV_sChoices dc_sChoices pm_sChoices cd_sChoices ct_sChoices : Value} {od_sChoices an_sChoices : Option Addr} {sl_sChoices : Array (Option Value)}
    {f_s_law_moved : Addr}
    {oc_s_law_moved kV_s_law_moved dc_s_law_moved pm_s_law_moved cd_s_law_moved ct_s_law_moved : Value} {od_s_law_moved an_s_law_moved : Option Addr} {sl_s_law_moved : Array (Option Value)}
    {f_s_law_numbered : Addr}
    {oc_s_law_numbered kV_s_law_numbered dc_s_law_numbered pm_s_law_numbered cd_s_law_numbered ct_s_law_numbered : Value} {od_s_law_numbered an_s_law_numbered : Option Addr} {sl_s_law_numbered : Array (Option Value)}
    {f_s_law_tree : Addr}
    {oc_s_law_tree kV_s_law_tree dc_s_law_tree pm_s_law_tree cd_s_law_tree ct_s_law_tree : Value} {od_s_law_tree an_s_law_tree : Option Addr} {sl_s_law_tree : Array (Option Value)}
    {f_s_law_ties : Addr}
    {oc_s_law_ties kV_s_law_ties dc_s_law_ties pm_s_law_ties cd_s_law_ties ct_s_law_ties : Value} {od_s_law_ties an_s_law_ties : Option Addr} {sl_s_law_ties : Array (Option Value)}
    {f_s_law_size : Addr}
    {oc_s_law_size kV_s_law_size dc_s_law_size pm_s_law_size cd_s_law_size ct_s_law_size : Value} {od_s_law_size an_s_law_size : Option Addr} {sl_s_law_size : Array (Option Value)}
    {f_s_law_small_tree : Addr}
    {oc_s_law_small_tree kV_s_law_small_tree dc_s_law_small_tree pm_s_law_small_tree cd_s_law_small_tree ct_s_law_small_tree : Value} {od_s_law_small_tree an_s_law_small_tree : Option Addr} {sl_s_law_small_tree : Array (Option Value)}
    {f_s_law_choices : Addr}
    {oc_s_law_choices kV_s_law_choices dc_s_law_choices pm_s_law_choices cd_s_law_choices ct_s_law_choices : Value} {od_s_law_choices an_s_law_choices : Option Addr} {sl_s_law_choices : Array (Option Value)}
    {f_sLaw : Addr}
    {oc_sLaw kV_sLaw dc_sLaw pm_sLaw cd_sLaw ct_sLaw : Value} {od_sLaw an_sLaw : Option Addr} {sl_sLaw : Array (Option Value)}
    {C f_sInit D ta tm : Addr}
    {oc_sInit dc_sInit pm_sInit cd_sInit ct_sInit : Value} {od_sInit an_sInit : Option Addr} {sl_sInit : Array (Option Value)}
    {odta : Option Addr} {nta : Nat} {slta : Array (Option Value)}
    {odtm : Option Addr} {ntm : Nat} {sltm : Array (Option Value)}
    {t1 t2 t3 : Tok}
    {t4 : Tok}
    {f_sPoints : Addr}
    {oc_sPoints kV_sPoints dc_sPoints pm_sPoints cd_sPoints ct_sPoints : Value} {od_sPoints an_sPoints : Option Addr} {sl_sPoints : Array (Option Value)}
    {f_sArrows : Addr}
    {oc_sArrows kV_sArrows dc_sArrows pm_sArrows cd_sArrows ct_sArrows : Value} {od_sArrows an_sArrows : Option Addr} {sl_sArrows : Array (Option Value)}
    {f_sMarks : Addr}
    {oc_sMarks kV_sMarks dc_sMarks pm_sMarks cd_sMarks ct_sMarks : Value} {od_sMarks an_sMarks : Option Addr} {sl_sMarks : Array (Option Value)}
    {C_nt : Addr}
    {f_sENotTree : Addr}
    {oc_sENotTree kV_sENotTree dc_sENotTree pm_sENotTree cd_sENotTree ct_sENotTree : Value} {od_sENotTree an_sENotTree : Option Addr} {sl_sENotTree : Array (Option Value)}
    {C_tm : Addr}
    {f_sETooMany : Addr}
    {oc_sETooMany kV_sETooMany dc_sETooMany pm_sETooMany cd_sETooMany ct_sETooMany : Value} {od_sETooMany an_sETooMany : Option Addr} {sl_sETooMany : Array (Option Value)}
    (X : K.In h) (G : h.Ns mainGlobals mg) (hfa : mg "law" = some (.ref fa)) 
    (a_sRA : PySem.W.nsIn K mainGlobals "refuse_bad_arrows" = some (some (.ref f_sRA)))
    (l_sRA : K.lookup f_sRA = some ⟨oc_sRA, od_sRA, .func (PySem.W.fnOf "refuse_bad_arrows" "refuse_bad_arrows" (defArgs sRA) (defBody sRA) (defScope sRA) .none kV_sRA dc_sRA pm_sRA an_sRA cd_sRA ct_sRA), sl_sRA⟩)
    (c_sRA : PySem.W.codeIn K cd_sRA "refuse_bad_arrows" = true)
    (k_sRA : PySem.W.keepIn K (.ref f_sRA) = true)
    (a_sRM : PySem.W.nsIn K mainGlobals "refuse_bad_marks" = some (some (.ref f_sRM)))
    (l_sRM : K.lookup f_sRM = some ⟨oc_sRM, od_sRM, .func (PySem.W.fnOf "refuse_bad_marks" "refuse_bad_marks" (defArgs sRM) (defBody sRM) (defScope sRM) .none kV_sRM dc_sRM pm_sRM an_sRM cd_sRM ct_sRM), sl_sRM⟩)
    (c_sRM : PySem.W.codeIn K cd_sRM "refuse_bad_marks" = true)
    (k_sRM : PySem.W.keepIn K (.ref f_sRM) = true)
    (a_sGat : PySem.W.nsIn K mainGlobals "gathered" = some (some (.ref f_sGat)))
    (l_sGat : K.lookup f_sGat = some ⟨oc_sGat, od_sGat, .func (PySem.W.fnOf "gathered" "gathered" (defArgs sGat) (defBody sGat) (defScope sGat) .none kV_sGat dc_sGat pm_sGat an_sGat cd_sGat ct_sGat), sl_sGat⟩)
    (c_sGat : PySem.W.codeIn K cd_sGat "gathered" = true)
    (k_sGat : PySem.W.keepIn K (.ref f_sGat) = true)
    (a_sBox : PySem.W.nsIn K mainGlobals "_law_box" = some (some (.ref f_sBox)))
    (l_sBox : K.lookup f_sBox = some ⟨oc_sBox, od_sBox, .func (PySem.W.fnOf "_law_box" "_law_box" (defArgs sBox) (defBody sBox) (defScope sBox) .none kV_sBox dc_sBox pm_sBox an_sBox cd_sBox ct_sBox), sl_sBox⟩)
    (c_sBox : PySem.W.codeIn K cd_sBox "_law_box" = true)
    (k_sBox : PySem.W.keepIn K (.ref f_sBox) = true)
    (a_sTake : PySem.W.nsIn K mainGlobals "_law_take" = some (some (.ref f_sTake)))
    (l_sTake : K.lookup f_sTake = some ⟨oc_sTake, od_sTake, .func (PySem.W.fnOf "_law_take" "_law_take" (defArgs sTake) (defBody sTake) (defScope sTake) .none kV_sTake dc_sTake pm_sTake an_sTake cd_sTake ct_sTake), sl_sTake⟩)
    (c_sTake : PySem.W.codeIn K cd_sTake "_law_take" = true)
    (k_sTake : PySem.W.keepIn K (.ref f_sTake) = true)
    (a_sOne : PySem.W.nsIn K mainGlobals "_law_one" = some (some (.ref f_sOne)))
    (l_sOne : K.lookup f_sOne = some ⟨oc_sOne, od_sOne, .func (PySem.W.fnOf "_law_one" "_law_one" (defArgs sOne) (defBody sOne) (defScope sOne) .none kV_sOne dc_sOne pm_sOne an_sOne cd_sOne ct_sOne), sl_sOne⟩)
    (c_sOne : PySem.W.codeIn K cd_sOne "_law_one" = true)
    (k_sOne : PySem.W.keepIn K (.ref f_sOne) = true)
    (a_sMixed : PySem.W.nsIn K mainGlobals "_law_mixed" = some (some (.ref f_sMixed)))
    (l_sMixed : K.lookup f_sMixed = some ⟨oc_sMixed, od_sMixed, .func (PySem.W.fnOf "_law_mixed" "_law_mixed" (defArgs sMixed) (defBody sMixed) (defScope sMixed) .none kV_sMixed dc_sMixed pm_sMixed an_sMixed cd_sMixed ct_sMixed), sl_sMixed⟩)
    (c_sMixed : PySem.W.codeIn K cd_sMixed "_law_mixed" = true)
    (k_sMixed : PySem.W.keepIn K (.ref f_sMixed) = true)
    (a_sSame : PySem.W.nsIn K mainGlobals "_law_same" = some (some (.ref f_sSame)))
    (l_sSame : K.lookup f_sSame = some ⟨oc_sSame, od_sSame, .func (PySem.W.fnOf "_law_same" "_law_same" (defArgs sSame) (defBody sSame) (defScope sSame) .none kV_sSame dc_sSame pm_sSame an_sSame cd_sSame ct_sSame), sl_sSame⟩)
    (c_sSame : PySem.W.codeIn K cd_sSame "_law_same" = true)
    (k_sSame : PySem.W.keepIn K (.ref f_sSame) = true)
    (a_sUnlike : PySem.W.nsIn K mainGlobals "_law_unlike" = some (some (.ref f_sUnlike)))
    (l_sUnlike : K.lookup f_sUnlike = some ⟨oc_sUnlike, od_sUnlike, .func (PySem.W.fnOf "_law_unlike" "_law_unlike" (defArgs sUnlike) (defBody sUnlike) (defScope sUnlike) .none kV_sUnlike dc_sUnlike pm_sUnlike an_sUnlike cd_sUnlike ct_sUnlike), sl_sUnlike⟩)
    (c_sUnlike : PySem.W.codeIn K cd_sUnlike "_law_unlike" = true)
    (k_sUnlike : PySem.W.keepIn K (.ref f_sUnlike) = true)
    (a_sHue : PySem.W.nsIn K mainGlobals "_law_hue" = some (some (.ref f_sHue)))
    (l_sHue : K.lookup f_sHue = some ⟨oc_sHue, od_sHue, .func (PySem.W.fnOf "_law_hue" "_law_hue" (defArgs sHue) (defBody sHue) (defScope sHue) .none kV_sHue dc_sHue pm_sHue an_sHue cd_sHue ct_sHue), sl_sHue⟩)
    (c_sHue : PySem.W.codeIn K cd_sHue "_law_hue" = true)
    (k_sHue : PySem.W.keepIn K (.ref f_sHue) = true)
    (a_sSign : PySem.W.nsIn K mainGlobals "_law_sign" = some (some (.ref f_sSign)))
    (l_sSign : K.lookup f_sSign = some ⟨oc_sSign, od_sSign, .func (PySem.W.fnOf "_law_sign" "_law_sign" (defArgs sSign) (defBody sSign) (defScope sSign) .none kV_sSign dc_sSign pm_sSign an_sSign cd_sSign ct_sSign), sl_sSign⟩)
    (c_sSign : PySem.W.codeIn K cd_sSign "_law_sign" = true)
    (k_sSign : PySem.W.keepIn K (.ref f_sSign) = true)
    (a_sMade : PySem.W.nsIn K mainGlobals "_law_made" = some (some (.ref f_sMade)))
    (l_sMade : K.lookup f_sMade = some ⟨oc_sMade, od_sMade, .func (PySem.W.fnOf "_law_made" "_law_made" (defArgs sMade) (defBody sMade) (defScope sMade) .none kV_sMade dc_sMade pm_sMade an_sMade cd_sMade ct_sMade), sl_sMade⟩)
    (c_sMade : PySem.W.codeIn K cd_sMade "_law_made" = true)
    (k_sMade : PySem.W.keepIn K (.ref f_sMade) = true)
    (a_sOEnd : PySem.W.nsIn K mainGlobals "other_end" = some (some (.ref f_sOEnd)))
    (l_sOEnd : K.lookup f_sOEnd = some ⟨oc_sOEnd, od_sOEnd, .func (PySem.W.fnOf "other_end" "other_end" (defArgs sOEnd) (defBody sOEnd) (defScope sOEnd) .none kV_sOEnd dc_sOEnd pm_sOEnd an_sOEnd cd_sOEnd ct_sOEnd), sl_sOEnd⟩)
    (c_sOEnd : PySem.W.codeIn K cd_sOEnd "other_end" = true)
    (k_sOEnd : PySem.W.keepIn K (.ref f_sOEnd) = true)
    (a_sIsTree : PySem.W.nsIn K mainGlobals "is_tree" = some (some (.ref f_sIsTree)))
    (l_sIsTree : K.lookup f_sIsTree = some ⟨oc_sIsTree, od_sIsTree, .func (PySem.W.fnOf "is_tree" "is_tree" (defArgs sIsTree) (defBody sIsTree) (defScope sIsTree) .none kV_sIsTree dc_sIsTree pm_sIsTree an_sIsTree cd_sIsTree ct_sIsTree), sl_sIsTree⟩)
    (c_sIsTree : PySem.W.codeIn K cd_sIsTree "is_tree" = true)
    (k_sIsTree : PySem.W.keepIn K (.ref f_sIsTree) = true)
    (a_sTieR : PySem.W.nsIn K mainGlobals "tie_rows" = some (some (.ref f_sTieR)))
    (l_sTieR : K.lookup f_sTieR = some ⟨oc_sTieR, od_sTieR, .func (PySem.W.fnOf "tie_rows" "tie_rows" (defArgs sTieR) (defBody sTieR) (defScope sTieR) .none kV_sTieR dc_sTieR pm_sTieR an_sTieR cd_sTieR ct_sTieR), sl_sTieR⟩)
    (c_sTieR : PySem.W.codeIn K cd_sTieR "tie_rows" = true)
    (k_sTieR : PySem.W.keepIn K (.ref f_sTieR) = true)
    (a_sHang : PySem.W.nsIn K mainGlobals "hanging" = some (some (.ref f_sHang)))
    (l_sHang : K.lookup f_sHang = some ⟨oc_sHang, od_sHang, .func (PySem.W.fnOf "hanging" "hanging" (defArgs sHang) (defBody sHang) (defScope sHang) .none kV_sHang dc_sHang pm_sHang an_sHang cd_sHang ct_sHang), sl_sHang⟩)
    (c_sHang : PySem.W.codeIn K cd_sHang "hanging" = true)
    (k_sHang : PySem.W.keepIn K (.ref f_sHang) = true)
    (a_sRNT : PySem.W.nsIn K mainGlobals "refuse_no_tree" = some (some (.ref f_sRNT)))
    (l_sRNT : K.lookup f_sRNT = some ⟨oc_sRNT, od_sRNT, .func (PySem.W.fnOf "refuse_no_tree" "refuse_no_tree" (defArgs sRNT) (defBody sRNT) (defScope sRNT) .none kV_sRNT dc_sRNT pm_sRNT an_sRNT cd_sRNT ct_sRNT), sl_sRNT⟩)
    (c_sRNT : PySem.W.codeIn K cd_sRNT "refuse_no_tree" = true)
    (k_sRNT : PySem.W.keepIn K (.ref f_sRNT) = true)
    (a_sRGW : PySem.W.nsIn K mainGlobals "refuse_great_ward" = some (some (.ref f_sRGW)))
    (l_sRGW : K.lookup f_sRGW = some ⟨oc_sRGW, od_sRGW, .func (PySem.W.fnOf "refuse_great_ward" "refuse_great_ward" (defArgs sRGW) (defBody sRGW) (defScope sRGW) .none kV_sRGW dc_sRGW pm_sRGW an_sRGW cd_sRGW ct_sRGW), sl_sRGW⟩)
    (c_sRGW : PySem.W.codeIn K cd_sRGW "refuse_great_ward" = true)
    (k_sRGW : PySem.W.keepIn K (.ref f_sRGW) = true)
    (a_sChoices : PySem.W.nsIn K mainGlobals "choices" = some (some (.ref f_sChoices)))
    (l_sChoices : K.lookup f_sChoices = some ⟨oc_sChoices, od_sChoices, .func (PySem.W.fnOf "choices" "choices" (defArgs sChoices) (defBody sChoices) (defScope sChoices) .none kV_sChoices dc_sChoices pm_sChoices an_sChoices cd_sChoices ct_sChoices), sl_sChoices⟩)
    (c_sChoices : PySem.W.codeIn K cd_sChoices "choices" = true)
    (k_sChoices : PySem.W.keepIn K (.ref f_sChoices) = true)
    (a_s_law_moved : PySem.W.nsIn K mainGlobals "_law_moved" = some (some (.ref f_s_law_moved)))
    (l_s_law_moved : K.lookup f_s_law_moved = some ⟨oc_s_law_moved, od_s_law_moved, .func (PySem.W.fnOf "_law_moved" "_law_moved" (defArgs s_law_moved) (defBody s_law_moved) (defScope s_law_moved) .none kV_s_law_moved dc_s_law_moved pm_s_law_moved an_s_law_moved cd_s_law_moved ct_s_law_moved), sl_s_law_moved⟩)
    (c_s_law_moved : PySem.W.codeIn K cd_s_law_moved "_law_moved" = true)
    (k_s_law_moved : PySem.W.keepIn K (.ref f_s_law_moved) = true)
    (a_s_law_numbered : PySem.W.nsIn K mainGlobals "_law_numbered" = some (some (.ref f_s_law_numbered)))
    (l_s_law_numbered : K.lookup f_s_law_numbered = some ⟨oc_s_law_numbered, od_s_law_numbered, .func (PySem.W.fnOf "_law_numbered" "_law_numbered" (defArgs s_law_numbered) (defBody s_law_numbered) (defScope s_law_numbered) .none kV_s_law_numbered dc_s_law_numbered pm_s_law_numbered an_s_law_numbered cd_s_law_numbered ct_s_law_numbered), sl_s_law_numbered⟩)
    (c_s_law_numbered : PySem.W.codeIn K cd_s_law_numbered "_law_numbered" = true)
    (k_s_law_numbered : PySem.W.keepIn K (.ref f_s_law_numbered) = true)
    (a_s_law_tree : PySem.W.nsIn K mainGlobals "_law_tree" = some (some (.ref f_s_law_tree)))
    (l_s_law_tree : K.lookup f_s_law_tree = some ⟨oc_s_law_tree, od_s_law_tree, .func (PySem.W.fnOf "_law_tree" "_law_tree" (defArgs s_law_tree) (defBody s_law_tree) (defScope s_law_tree) .none kV_s_law_tree dc_s_law_tree pm_s_law_tree an_s_law_tree cd_s_law_tree ct_s_law_tree), sl_s_law_tree⟩)
    (c_s_law_tree : PySem.W.codeIn K cd_s_law_tree "_law_tree" = true)
    (k_s_law_tree : PySem.W.keepIn K (.ref f_s_law_tree) = true)
    (a_s_law_ties : PySem.W.nsIn K mainGlobals "_law_ties" = some (some (.ref f_s_law_ties)))
    (l_s_law_ties : K.lookup f_s_law_ties = some ⟨oc_s_law_ties, od_s_law_ties, .func (PySem.W.fnOf "_law_ties" "_law_ties" (defArgs s_law_ties) (defBody s_law_ties) (defScope s_law_ties) .none kV_s_law_ties dc_s_law_ties pm_s_law_ties an_s_law_ties cd_s_law_ties ct_s_law_ties), sl_s_law_ties⟩)
    (c_s_law_ties : PySem.W.codeIn K cd_s_law_ties "_law_ties" = true)
    (k_s_law_ties : PySem.W.keepIn K (.ref f_s_law_ties) = true)
    (a_s_law_size : PySem.W.nsIn K mainGlobals "_law_size" = some (some (.ref f_s_law_size)))
    (l_s_law_size : K.lookup f_s_law_size = some ⟨oc_s_law_size, od_s_law_size, .func (PySem.W.fnOf "_law_size" "_law_size" (defArgs s_law_size) (defBody s_law_size) (defScope s_law_size) .none kV_s_law_size dc_s_law_size pm_s_law_size an_s_law_size cd_s_law_size ct_s_law_size), sl_s_law_size⟩)
    (c_s_law_size : PySem.W.codeIn K cd_s_law_size "_law_size" = true)
    (k_s_law_size : PySem.W.keepIn K (.ref f_s_law_size) = true)
    (a_s_law_small_tree : PySem.W.nsIn K mainGlobals "_law_small_tree" = some (some (.ref f_s_law_small_tree)))
    (l_s_law_small_tree : K.lookup f_s_law_small_tree = some ⟨oc_s_law_small_tree, od_s_law_small_tree, .func (PySem.W.fnOf "_law_small_tree" "_law_small_tree" (defArgs s_law_small_tree) (defBody s_law_small_tree) (defScope s_law_small_tree) .none kV_s_law_small_tree dc_s_law_small_tree pm_s_law_small_tree an_s_law_small_tree cd_s_law_small_tree ct_s_law_small_tree), sl_s_law_small_tree⟩)
    (c_s_law_small_tree : PySem.W.codeIn K cd_s_law_small_tree "_law_small_tree" = true)
    (k_s_law_small_tree : PySem.W.keepIn K (.ref f_s_law_small_tree) = true)
    (a_s_law_choices : PySem.W.nsIn K mainGlobals "_law_choices" = some (some (.ref f_s_law_choices)))
    (l_s_law_choices : K.lookup f_s_law_choices = some ⟨oc_s_law_choices, od_s_law_choices, .func (PySem.W.fnOf "_law_choices" "_law_choices" (defArgs s_law_choices) (defBody s_law_choices) (defScope s_law_choices) .none kV_s_law_choices dc_s_law_choices pm_s_law_choices an_s_law_choices cd_s_law_choices ct_s_law_choices), sl_s_law_choices⟩)
    (c_s_law_choices : PySem.W.codeIn K cd_s_law_choices "_law_choices" = true)
    (k_s_law_choices : PySem.W.keepIn K (.ref f_s_law_choices) = true)
    (a_sLaw : PySem.W.nsIn K mainGlobals "law" = some (some (.ref f_sLaw)))
    (l_sLaw : K.lookup f_sLaw = some ⟨oc_sLaw, od_sLaw, .func (PySem.W.fnOf "law" "law" (defArgs sLaw) (defBody sLaw) (defScope sLaw) .none kV_sLaw dc_sLaw pm_sLaw an_sLaw cd_sLaw ct_sLaw), sl_sLaw⟩)
    (c_sLaw : PySem.W.codeIn K cd_sLaw "law" = true)
    (k_sLaw : PySem.W.keepIn K (.ref f_sLaw) = true)
    (z_len : PySem.W.nsIn K mainGlobals "len" = some none)
    (z_list : PySem.W.nsIn K mainGlobals "list" = some none)
    (z_range : PySem.W.nsIn K mainGlobals "range" = some none)
    (z_isinstance : PySem.W.nsIn K mainGlobals "isinstance" = some none)
    (z_tuple : PySem.W.nsIn K mainGlobals "tuple" = some none)
    (z_bool : PySem.W.nsIn K mainGlobals "bool" = some none)
    (z_int : PySem.W.nsIn K mainGlobals "int" = some none)
    (z_str : PySem.W.nsIn K mainGlobals "str" = some none)
    (z_all : PySem.W.nsIn K mainGlobals "all" = some none)
    (z_zip : PySem.W.nsIn K mainGlobals "zip" = some none)
    (z_enumerate : PySem.W.nsIn K mainGlobals "enumerate" = some none)
    (z_set : PySem.W.nsIn K mainGlobals "set" = some none)
    (z_sorted : PySem.W.nsIn K mainGlobals "sorted" = some none)
    (aC : PySem.W.nsIn K mainGlobals "Web" = some (some (.ref C)))
    (jI : PySem.W.findIn K (.ref C) "__init__" = some (some (.ref f_sInit)))
    (l_sInit : K.lookup f_sInit = some ⟨oc_sInit, od_sInit, .func (PySem.W.fnOf "__init__" "Web.__init__" (defArgs sInit) (defBody sInit) (defScope sInit) .none (.ref D) dc_sInit pm_sInit an_sInit cd_sInit ct_sInit), sl_sInit⟩)
    (c_sInit : PySem.W.codeIn K cd_sInit "Web.__init__" = true)
    (k_sInit : PySem.W.keepIn K (.ref f_sInit) = true)
    (da : PySem.W.nsIn K D "arrows" = some (some (.ref ta)))
    (dm : PySem.W.nsIn K D "marks" = some (some (.ref tm)))
    (eta : K.lookup ta = some ⟨.type "tuple", odta, .seq #[] nta, slta⟩)
    (etm : K.lookup tm = some ⟨.type "tuple", odtm, .seq #[] ntm, sltm⟩)
    (g1 : PySem.W.nsIn K mainGlobals "MOST_POINTS" = some (some (.int 81 t1)))
    (g2 : PySem.W.nsIn K mainGlobals "COLOURS" = some (some (.str "abc" t2)))
    (g3 : PySem.W.nsIn K mainGlobals "MARKS" = some (some (.str "pqr" t3)))
    (g4 : PySem.W.nsIn K mainGlobals "MOST_WARD" = some (some (.int 64 t4)))
    (j_sPoints : PySem.W.findIn K (.ref C) "points" = some (some (.ref f_sPoints)))
    (l_sPoints : K.lookup f_sPoints = some ⟨oc_sPoints, od_sPoints, .func (PySem.W.fnOf "points" "Web.points" (defArgs sPoints) (defBody sPoints) (defScope sPoints) .none kV_sPoints dc_sPoints pm_sPoints an_sPoints cd_sPoints ct_sPoints), sl_sPoints⟩)
    (c_sPoints : PySem.W.codeIn K cd_sPoints "Web.points" = true)
    (k_sPoints : PySem.W.keepIn K (.ref f_sPoints) = true)
    (j_sArrows : PySem.W.findIn K (.ref C) "arrows" = some (some (.ref f_sArrows)))
    (l_sArrows : K.lookup f_sArrows = some ⟨oc_sArrows, od_sArrows, .func (PySem.W.fnOf "arrows" "Web.arrows" (defArgs sArrows) (defBody sArrows) (defScope sArrows) .none kV_sArrows dc_sArrows pm_sArrows an_sArrows cd_sArrows ct_sArrows), sl_sArrows⟩)
    (c_sArrows : PySem.W.codeIn K cd_sArrows "Web.arrows" = true)
    (k_sArrows : PySem.W.keepIn K (.ref f_sArrows) = true)
    (j_sMarks : PySem.W.findIn K (.ref C) "marks" = some (some (.ref f_sMarks)))
    (l_sMarks : K.lookup f_sMarks = some ⟨oc_sMarks, od_sMarks, .func (PySem.W.fnOf "marks" "Web.marks" (defArgs sMarks) (defBody sMarks) (defScope sMarks) .none kV_sMarks dc_sMarks pm_sMarks an_sMarks cd_sMarks ct_sMarks), sl_sMarks⟩)
    (c_sMarks : PySem.W.codeIn K cd_sMarks "Web.marks" = true)
    (k_sMarks : PySem.W.keepIn K (.ref f_sMarks) = true)
    (a_nt : PySem.W.nsIn K mainGlobals "NotTree" = some (some (.ref C_nt)))
    (j_nt : PySem.W.findIn K (.ref C_nt) "__init__" = some (some (.ref f_sENotTree)))
    (l_sENotTree : K.lookup f_sENotTree = some ⟨oc_sENotTree, od_sENotTree, .func (PySem.W.fnOf "__init__" "NotTree.__init__" (defArgs sENotTree) (defBody sENotTree) (defScope sENotTree) .none kV_sENotTree dc_sENotTree pm_sENotTree an_sENotTree cd_sENotTree ct_sENotTree), sl_sENotTree⟩)
    (c_sENotTree : PySem.W.codeIn K cd_sENotTree "NotTree.__init__" = true)
    (k_sENotTree : PySem.W.keepIn K (.ref f_sENotTree) = true)
    (a_tm : PySem.W.nsIn K mainGlobals "TooMany" = some (some (.ref C_tm)))
    (j_tm : PySem.W.findIn K (.ref C_tm) "__init__" = some (some (.ref f_sETooMany)))
    (l_sETooMany : K.lookup f_sETooMany = some ⟨oc_sETooMany, od_sETooMany, .func (PySem.W.fnOf "__init__" "TooMany.__init__" (defArgs sETooMany) (defBody sETooMany) (defScope sETooMany) .none kV_sETooMany dc_sETooMany pm_sETooMany an_sETooMany cd_sETooMany ct_sETooMany), sl_sETooMany⟩)
    (c_sETooMany : PySem.W.codeIn K cd_sETooMany "TooMany.__init__" = true)
    (k_sETooMany : PySem.W.keepIn K (.ref f_sETooMany) = true)
    (ck : ([PySem.W.plainGet K C Str.empty, PySem.W.hasDictIn K C, PySem.W.plainOver K C, fI K C "__setattr__" (some (.builtin "object.__setattr__")), fI K C "places" none, fI K C "arrow_rows" none, fI K C "mark_rows" none, fI K C "onward" none, fI K C "backward" none, PySem.W.makesIn K C, fI K C "__init__" (some (.ref f_sInit)), PySem.W.isFn K (.ref f_sInit), PySem.W.keepIn K (.ref C), fI K C "points" (some (.ref f_sPoints)), PySem.W.isFn K (.ref f_sPoints), fI K C "arrows" (some (.ref f_sArrows)), PySem.W.isFn K (.ref f_sArrows), fI K C "marks" (some (.ref f_sMarks)), PySem.W.isFn K (.ref f_sMarks), errB K C_nt f_sENotTree "word", errB K C_tm f_sETooMany "bound"] : List Bool).all id = true) :
    ∃ fd : FuncData, (∀ (s : Shared) (v : Value), BindsTo s fd ⟨[v], []⟩ [("_law_script", v)]) ∧ ∀ base : Heap, K.In base → base.Ns mainGlobals mg → FnOk l.prog w K mg base CX0 14 fa fd ["_law_script"] (spLaw K) := by
  have e := hfa.symm.trans (PySem.W.mg_of X G a_sLaw)
  cases e
  have F_sRA := fun_mk (st := sRA) l_sRA c_sRA k_sRA
  have b_sRA := F_sRA.binds (ps := ["points", "arrows"]) fun _ _ _ _ _ _ us hl => match us, hl with | [_, _], _ => rfl
  have F_sRM := fun_mk (st := sRM) l_sRM c_sRM k_sRM
  have b_sRM := F_sRM.binds (ps := ["points", "marks"]) fun _ _ _ _ _ _ us hl => match us, hl with | [_, _], _ => rfl
  have F_sGat := fun_mk (st := sGat) l_sGat c_sGat k_sGat
  have b_sGat := F_sGat.binds (ps := ["rows"]) fun _ _ _ _ _ _ us hl => match us, hl with | [_], _ => rfl
  have F_sBox := fun_mk (st := sBox) l_sBox c_sBox k_sBox
  have b_sBox := F_sBox.binds (ps := ["_law_script"]) fun _ _ _ _ _ _ us hl => match us, hl with | [_], _ => rfl
  have F_sTake := fun_mk (st := sTake) l_sTake c_sTake k_sTake
  have b_sTake := F_sTake.binds (ps := ["_law_box_here", "_law_many"]) fun _ _ _ _ _ _ us hl => match us, hl with | [_, _], _ => rfl
  have F_sOne := fun_mk (st := sOne) l_sOne c_sOne k_sOne
  have b_sOne := F_sOne.binds (ps := ["_law_box_here", "_law_some"]) fun _ _ _ _ _ _ us hl => match us, hl with | [_, _], _ => rfl
  have F_sMixed := fun_mk (st := sMixed) l_sMixed c_sMixed k_sMixed
  have b_sMixed := F_sMixed.binds (ps := ["_law_box_here", "_law_some"]) fun _ _ _ _ _ _ us hl => match us, hl with | [_, _], _ => rfl
  have F_sSame := fun_mk (st := sSame) l_sSame c_sSame k_sSame
  have b_sSame := F_sSame.binds (ps := ["_law_found", "_law_due"]) fun _ _ _ _ _ _ us hl => match us, hl with | [_, _], _ => rfl
  have F_sUnlike := fun_mk (st := sUnlike) l_sUnlike c_sUnlike k_sUnlike
  have b_sUnlike := F_sUnlike.binds (ps := ["_law_some"]) fun _ _ _ _ _ _ us hl => match us, hl with | [_], _ => rfl
  have F_sHue := fun_mk (st := sHue) l_sHue c_sHue k_sHue
  have b_sHue := F_sHue.binds (ps := ["_law_box_here"]) fun _ _ _ _ _ _ us hl => match us, hl with | [_], _ => rfl
  have F_sSign := fun_mk (st := sSign) l_sSign c_sSign k_sSign
  have b_sSign := F_sSign.binds (ps := ["_law_box_here"]) fun _ _ _ _ _ _ us hl => match us, hl with | [_], _ => rfl
  have F_sMade := fun_mk (st := sMade) l_sMade c_sMade k_sMade
  have b_sMade := F_sMade.binds (ps := ["_law_m"]) fun _ _ _ _ _ _ us hl => match us, hl with | [_], _ => rfl
  have F_sOEnd := fun_mk (st := sOEnd) l_sOEnd c_sOEnd k_sOEnd
  have b_sOEnd := F_sOEnd.binds (ps := ["arrow", "point"]) fun _ _ _ _ _ _ us hl => match us, hl with | [_, _], _ => rfl
  have F_sIsTree := fun_mk (st := sIsTree) l_sIsTree c_sIsTree k_sIsTree
  have b_sIsTree := F_sIsTree.binds (ps := ["web"]) fun _ _ _ _ _ _ us hl => match us, hl with | [_], _ => rfl
  have F_sTieR := fun_mk (st := sTieR) l_sTieR c_sTieR k_sTieR
  have b_sTieR := F_sTieR.binds (ps := ["web"]) fun _ _ _ _ _ _ us hl => match us, hl with | [_], _ => rfl
  have F_sHang := fun_mk (st := sHang) l_sHang c_sHang k_sHang
  have b_sHang := F_sHang.binds (ps := ["web", "root"]) fun _ _ _ _ _ _ us hl => match us, hl with | [_, _], _ => rfl
  have F_sRNT := fun_mk (st := sRNT) l_sRNT c_sRNT k_sRNT
  have b_sRNT := F_sRNT.binds (ps := ["web"]) fun _ _ _ _ _ _ us hl => match us, hl with | [_], _ => rfl
  have F_sRGW := fun_mk (st := sRGW) l_sRGW c_sRGW k_sRGW
  have b_sRGW := F_sRGW.binds (ps := ["tree"]) fun _ _ _ _ _ _ us hl => match us, hl with | [_], _ => rfl
  have F_sChoices := fun_mk (st := sChoices) l_sChoices c_sChoices k_sChoices
  have b_sChoices := F_sChoices.binds (ps := ["tree"]) fun _ _ _ _ _ _ us hl => match us, hl with | [_], _ => rfl
  have F_s_law_moved := fun_mk (st := s_law_moved) l_s_law_moved c_s_law_moved k_s_law_moved
  have b_s_law_moved := F_s_law_moved.binds (ps := ["_law_m", "_law_many", "_law_seats"]) fun _ _ _ _ _ _ us hl => match us, hl with | [_, _, _], _ => rfl
  have F_s_law_numbered := fun_mk (st := s_law_numbered) l_s_law_numbered c_s_law_numbered k_s_law_numbered
  have b_s_law_numbered := F_s_law_numbered.binds (ps := ["_law_box_here", "_law_m"]) fun _ _ _ _ _ _ us hl => match us, hl with | [_, _], _ => rfl
  have F_s_law_tree := fun_mk (st := s_law_tree) l_s_law_tree c_s_law_tree k_s_law_tree
  have b_s_law_tree := F_s_law_tree.binds (ps := ["_law_box_here", "_law_most"]) fun _ _ _ _ _ _ us hl => match us, hl with | [_, _], _ => rfl
  have F_s_law_ties := fun_mk (st := s_law_ties) l_s_law_ties c_s_law_ties k_s_law_ties
  have b_s_law_ties := F_s_law_ties.binds (ps := ["_law_m", "_law_point"]) fun _ _ _ _ _ _ us hl => match us, hl with | [_, _], _ => rfl
  have F_s_law_size := fun_mk (st := s_law_size) l_s_law_size c_s_law_size k_s_law_size
  have b_s_law_size := F_s_law_size.binds (ps := ["_law_m"]) fun _ _ _ _ _ _ us hl => match us, hl with | [_], _ => rfl
  have F_s_law_small_tree := fun_mk (st := s_law_small_tree) l_s_law_small_tree c_s_law_small_tree k_s_law_small_tree
  have b_s_law_small_tree := F_s_law_small_tree.binds (ps := ["_law_box_here", "_law_most", "_law_top"]) fun _ _ _ _ _ _ us hl => match us, hl with | [_, _, _], _ => rfl
  have F_s_law_choices := fun_mk (st := s_law_choices) l_s_law_choices c_s_law_choices k_s_law_choices
  have b_s_law_choices := F_s_law_choices.binds (ps := ["_law_m"]) fun _ _ _ _ _ _ us hl => match us, hl with | [_], _ => rfl
  have F_sLaw := fun_mk (st := sLaw) l_sLaw c_sLaw k_sLaw
  have cl : Cls K C := ⟨(all_get ck 0 rfl), (all_get ck 1 rfl), (all_get ck 2 rfl), (of_decide_eq_true (all_get ck 3 rfl))⟩
  have wt : WT K mg C := ⟨cl, nd (all_get ck 4 rfl), nd (all_get ck 5 rfl), nd (all_get ck 6 rfl), nd (all_get ck 7 rfl), nd (all_get ck 8 rfl), (PySem.W.mg_none_of X G z_list), (PySem.W.mg_none_of X G z_range), (PySem.W.mg_none_of X G z_set), (PySem.W.mg_none_of X G z_sorted), ⟨_, PySem.W.mg_of X G g1⟩⟩
  have mk : Mk K C f_sInit := ⟨(all_get ck 9 rfl), (of_decide_eq_true (all_get ck 10 rfl)), (all_get ck 11 rfl), (all_get ck 12 rfl)⟩
  have FI : FunD K "__init__" "Web.__init__" (defArgs sInit) (defBody sInit) (defScope sInit) [] [("arrows", .ref ta), ("marks", .ref tm)] f_sInit _ := ⟨⟨oc_sInit, od_sInit, .none, .ref D, dc_sInit, pm_sInit, an_sInit, cd_sInit, ct_sInit, sl_sInit, rfl, l_sInit, c_sInit, .inl ⟨rfl, rfl⟩, .inr ⟨D, rfl, fun q hq => by
    simp only [List.mem_cons, List.not_mem_nil, or_false] at hq
    rcases hq with rfl | rfl
    · exact ⟨_, da, rfl⟩
    · exact ⟨_, dm, rfl⟩⟩⟩, k_sInit⟩
  have ea : ∀ H, SqT K H ta [] := fun H => .inr ⟨_, _, _, eta, rfl, rfl, Nat.zero_le _, .nil⟩
  have em : ∀ H, SqT K H tm [] := fun H => .inr ⟨_, _, _, etm, rfl, rfl, Nat.zero_le _, .nil⟩
  have F_sPoints := fun_mk (st := sPoints) l_sPoints c_sPoints k_sPoints
  have b_sPoints := F_sPoints.binds (ps := ["self"]) fun _ _ _ _ _ _ us hl => match us, hl with | [_], _ => rfl
  have F_sArrows := fun_mk (st := sArrows) l_sArrows c_sArrows k_sArrows
  have b_sArrows := F_sArrows.binds (ps := ["self"]) fun _ _ _ _ _ _ us hl => match us, hl with | [_], _ => rfl
  have F_sMarks := fun_mk (st := sMarks) l_sMarks c_sMarks k_sMarks
  have b_sMarks := F_sMarks.binds (ps := ["self"]) fun _ _ _ _ _ _ us hl => match us, hl with | [_], _ => rfl
  have F_sENotTree := fun_mk (st := sENotTree) l_sENotTree c_sENotTree k_sENotTree
  have b_sENotTree := F_sENotTree.binds (ps := ["self"]) fun _ _ _ _ _ _ us hl => match us, hl with | [_], _ => rfl
  have er_nt : ErrC K C_nt f_sENotTree "word" := errC_of (all_get ck 19 rfl)
  have F_sETooMany := fun_mk (st := sETooMany) l_sETooMany c_sETooMany k_sETooMany
  have b_sETooMany := F_sETooMany.binds (ps := ["self", "bound"]) fun _ _ _ _ _ _ us hl => match us, hl with | [_, _], _ => rfl
  have er_tm : ErrC K C_tm f_sETooMany "bound" := errC_of (all_get ck 20 rfl)
  refine ⟨PySem.W.fnOf "law" "law" (defArgs sLaw) (defBody sLaw) (defScope sLaw) .none kV_sLaw dc_sLaw pm_sLaw an_sLaw cd_sLaw ct_sLaw, fun s v => .of_eq rfl, fun base _ _ => ?_⟩
  have o_sRA : Df l.prog w K mg base 1 "refuse_bad_arrows" ["points", "arrows"] (spRA K) f_sRA _ := ⟨ok_ra F_sRA (PySem.W.mg_none_of X G z_list) (PySem.W.mg_none_of X G z_enumerate) (PySem.W.mg_of X G g2), PySem.W.mg_of X G a_sRA, k_sRA, b_sRA⟩
  have o_sRM : Df l.prog w K mg base 1 "refuse_bad_marks" ["points", "marks"] (spRM K) f_sRM _ := ⟨ok_rm F_sRM (PySem.W.mg_none_of X G z_list) (PySem.W.mg_none_of X G z_enumerate) (PySem.W.mg_of X G g3), PySem.W.mg_of X G a_sRM, k_sRM, b_sRM⟩
  have o_sGat : Df l.prog w K mg base 1 "gathered" ["rows"] (spGat K) f_sGat _ := ⟨ok_gat F_sGat, PySem.W.mg_of X G a_sGat, k_sGat, b_sGat⟩
  have o_sBox : Df l.prog w K mg base 1 "_law_box" ["_law_script"] (spBox K) f_sBox _ := ⟨ok_box F_sBox (PySem.W.mg_none_of X G z_len) (PySem.W.mg_none_of X G z_list), PySem.W.mg_of X G a_sBox, k_sBox, b_sBox⟩
  have o_sTake : Df l.prog w K mg base 1 "_law_take" ["_law_box_here", "_law_many"] spTake f_sTake _ := ⟨ok_take F_sTake (PySem.W.mg_none_of X G z_len), PySem.W.mg_of X G a_sTake, k_sTake, b_sTake⟩
  have o_sOne : Df l.prog w K mg base 2 "_law_one" ["_law_box_here", "_law_some"] (spOne K) f_sOne _ := ⟨ok_one F_sOne (PySem.W.mg_none_of X G z_len) o_sTake, PySem.W.mg_of X G a_sOne, k_sOne, b_sOne⟩
  have sm : SmT mg := ⟨(PySem.W.mg_none_of X G z_isinstance), (PySem.W.mg_none_of X G z_list), (PySem.W.mg_none_of X G z_tuple), (PySem.W.mg_none_of X G z_bool), (PySem.W.mg_none_of X G z_int), (PySem.W.mg_none_of X G z_str), (PySem.W.mg_none_of X G z_len), (PySem.W.mg_none_of X G z_all), (PySem.W.mg_none_of X G z_zip)⟩
  have o_sSame : Df l.prog w K mg base 4 "_law_same" ["_law_found", "_law_due"] (spSame K 3) f_sSame _ := ⟨ok_same F_sSame (PySem.W.mg_of X G a_sSame) b_sSame sm 3, PySem.W.mg_of X G a_sSame, k_sSame, b_sSame⟩
  have o_sUnlike : Df l.prog w K mg base 1 "_law_unlike" ["_law_some"] (spUnl K) f_sUnlike _ := ⟨ok_unl F_sUnlike (PySem.W.mg_none_of X G z_sorted), PySem.W.mg_of X G a_sUnlike, k_sUnlike, b_sUnlike⟩
  have oI : FnOk l.prog w K mg base CX0 2 f_sInit _ psI (spInit K C) := ok_init FI wt o_sRA o_sRM o_sGat
  have e_tm : EDf l.prog w K mg base "TooMany" "bound" C_tm f_sETooMany _ := ⟨ok_eTooMany F_sETooMany er_tm, er_tm, (PySem.W.mg_of X G a_tm), b_sETooMany⟩
  have e_tmc := e_tm
  rw [← (clsF_t : clsF C_nt C_tm "TooMany" = C_tm)] at e_tmc
  have e_nt0 : EDf0 l.prog w K mg base "NotTree" C_nt f_sENotTree _ := ⟨ok_eNotTree F_sENotTree er_nt, er_nt, (PySem.W.mg_of X G a_nt), b_sENotTree⟩
  have e_ntc := e_nt0
  rw [← (clsF_n : clsF C_nt C_tm "NotTree" = C_nt)] at e_ntc
  have d_take : Df l.prog w K mg base 1 "_law_take" ["_law_box_here", "_law_many"] (Dv.spD (Dv.mkS K C [] (clsF C_nt C_tm)) Dv.takeM) f_sTake _ := Dv.Df.to o_sTake (fun _ _ _ _ h => Dv.sp_take h)
  have d_one : Df l.prog w K mg base 2 "_law_one" ["_law_box_here", "_law_some"] (Dv.spD (Dv.mkS K C [] (clsF C_nt C_tm)) Dv.oneM) f_sOne _ := Dv.Df.to o_sOne (fun _ _ _ _ h => Dv.sp_one h)
  have d_same : Df l.prog w K mg base 4 "_law_same" ["_law_found", "_law_due"] (Dv.spD (Dv.mkS K C [] (clsF C_nt C_tm)) (Dv.sameM 3)) f_sSame _ := Dv.Df.to o_sSame (fun _ _ _ _ h => Dv.sp_same h)
  have bq : Dv.Bq mg := ⟨(PySem.W.mg_none_of X G z_range), (PySem.W.mg_none_of X G z_len), (PySem.W.mg_none_of X G z_list)⟩
  have d_unl : Df l.prog w K mg base 1 "_law_unlike" ["_law_some"] (Dv.spL (Dv.mkS K C [] (clsF C_nt C_tm)) Dv.unlM) f_sUnlike _ := Dv.Df.to o_sUnlike (fun _ _ _ _ h => Dv.sp_unl h)
  have d_hue : Df l.prog w K mg base 3 "_law_hue" ["_law_box_here"] (Dv.spD (Dv.mkS K C [] (clsF C_nt C_tm)) Dv.hueM) f_sHue _ := ⟨Dv.ok_hue F_sHue d_one, PySem.W.mg_of X G a_sHue, k_sHue, b_sHue⟩
  have d_sign : Df l.prog w K mg base 3 "_law_sign" ["_law_box_here"] (Dv.spD (Dv.mkS K C [] (clsF C_nt C_tm)) Dv.signM) f_sSign _ := ⟨Dv.ok_sign F_sSign d_one, PySem.W.mg_of X G a_sSign, k_sSign, b_sSign⟩
  have m_sPoints : Mf l.prog w K mg base 1 C "points" (spPts C) f_sPoints _ := ⟨ok_pts F_sPoints wt (PySem.W.mg_none_of X G z_len), ⟨(of_decide_eq_true (all_get ck 13 rfl)), (all_get ck 14 rfl), k_sPoints⟩, b_sPoints⟩
  have m_sArrows : Mf l.prog w K mg base 1 C "arrows" (spArr C) f_sArrows _ := ⟨ok_arr F_sArrows wt, ⟨(of_decide_eq_true (all_get ck 15 rfl)), (all_get ck 16 rfl), k_sArrows⟩, b_sArrows⟩
  have m_sMarks : Mf l.prog w K mg base 1 C "marks" (spMrk C) f_sMarks _ := ⟨ok_mrk F_sMarks wt, ⟨(of_decide_eq_true (all_get ck 17 rfl)), (all_get ck 18 rfl), k_sMarks⟩, b_sMarks⟩
  have n_p : Mf l.prog w K mg base 1 C "points" (Dv.spD (Dv.mkS K C [] (clsF C_nt C_tm)) Dv.ptsM) f_sPoints _ := ⟨m_sPoints.ok.imp (fun _ _ _ _ h => Dv.sp_pts h), m_sPoints.mt, m_sPoints.bd⟩
  have n_a : Mf l.prog w K mg base 1 C "arrows" (Dv.spL (Dv.mkS K C [] (clsF C_nt C_tm)) Dv.arrM) f_sArrows _ := ⟨m_sArrows.ok.imp (fun _ _ _ _ h => Dv.sp_arr h), m_sArrows.mt, m_sArrows.bd⟩
  have o_sTieR : Df l.prog w K mg base 2 "tie_rows" ["web"] (spTR K C) f_sTieR _ := ⟨ok_tr F_sTieR cl (PySem.W.mg_none_of X G z_range) m_sPoints m_sArrows m_sMarks, PySem.W.mg_of X G a_sTieR, k_sTieR, b_sTieR⟩
  have d_tr : Df l.prog w K mg base 2 "tie_rows" ["web"] (Dv.spL (Dv.mkS K C [] (clsF C_nt C_tm)) Dv.trM) f_sTieR _ := Dv.Df.to o_sTieR (fun _ _ _ _ h => Dv.sp_tr h)
  have d_oe : Df l.prog w K mg base 1 "other_end" ["arrow", "point"] (Dv.spD (Dv.mkS K C [] (clsF C_nt C_tm)) Dv.oeM) f_sOEnd _ := ⟨Dv.ok_oe F_sOEnd, PySem.W.mg_of X G a_sOEnd, k_sOEnd, b_sOEnd⟩
  have d_hg : Df l.prog w K mg base 3 "hanging" ["web", "root"] (Dv.spL (Dv.mkS K C [] (clsF C_nt C_tm)) Dv.hgM) f_sHang _ := ⟨Dv.ok_hg F_sHang bq d_tr d_oe, PySem.W.mg_of X G a_sHang, k_sHang, b_sHang⟩
  have d_it : Df l.prog w K mg base 5 "is_tree" ["web"] (Dv.spD (Dv.mkS K C [] (clsF C_nt C_tm)) Dv.itM) f_sIsTree _ := ⟨Dv.ok_it F_sIsTree bq cl n_p n_a d_hg, PySem.W.mg_of X G a_sIsTree, k_sIsTree, b_sIsTree⟩
  have d_rnt : DfX l.prog w K mg base 7 "refuse_no_tree" ["web"] (Dv.spX (Dv.mkS K C [] (clsF C_nt C_tm)) Dv.rntM) f_sRNT _ := ⟨Dv.ok_rnt F_sRNT d_it e_ntc, PySem.W.mg_of X G a_sRNT, k_sRNT, b_sRNT⟩
  have d_rgw : DfX l.prog w K mg base 9 "refuse_great_ward" ["tree"] (Dv.spX (Dv.mkS K C [] (clsF C_nt C_tm)) Dv.rgwM) f_sRGW _ := ⟨Dv.ok_rgw F_sRGW bq (PySem.W.mg_of X G g4) d_rnt d_tr e_tmc, PySem.W.mg_of X G a_sRGW, k_sRGW, b_sRGW⟩
  have d_chs : DfX l.prog w K mg base 11 "choices" ["tree"] (Dv.spY (Dv.mkS K C [] (clsF C_nt C_tm)) Dv.chsM) f_sChoices _ := ⟨Dv.ok_choices F_sChoices bq d_rgw d_tr, PySem.W.mg_of X G a_sChoices, k_sChoices, b_sChoices⟩
  have d_made : Df l.prog w K mg base 4 "_law_made" ["_law_m"] (Dv.spD (Dv.mkS K C [] (clsF C_nt C_tm)) Dv.madeM) f_sMade _ := ⟨Dv.ok_made F_sMade (PySem.W.mg_of X G aC) mk FI oI, PySem.W.mg_of X G a_sMade, k_sMade, b_sMade⟩
  have d_mix : Df l.prog w K mg base 2 "_law_mixed" ["_law_box_here", "_law_some"] (Dv.spL (Dv.mkS K C [] (clsF C_nt C_tm)) Dv.mixM) f_sMixed _ := ⟨Dv.ok_mixed F_sMixed bq d_take, PySem.W.mg_of X G a_sMixed, k_sMixed, b_sMixed⟩
  have d_lmv : Df l.prog w K mg base 2 "_law_moved" ["_law_m", "_law_many", "_law_seats"] (Dv.spD (Dv.mkS K C [] (clsF C_nt C_tm)) Dv.lmvM) f_s_law_moved _ := ⟨Dv.ok_lmv F_s_law_moved d_unl, PySem.W.mg_of X G a_s_law_moved, k_s_law_moved, b_s_law_moved⟩
  have d_lnw : Df l.prog w K mg base 4 "_law_numbered" ["_law_box_here", "_law_m"] (Dv.spD (Dv.mkS K C [] (clsF C_nt C_tm)) Dv.lnwM) f_s_law_numbered _ := ⟨Dv.ok_lnw F_s_law_numbered bq d_mix d_lmv, PySem.W.mg_of X G a_s_law_numbered, k_s_law_numbered, b_s_law_numbered⟩
  have d_tre : Df l.prog w K mg base 6 "_law_tree" ["_law_box_here", "_law_most"] (Dv.spD (Dv.mkS K C [] (clsF C_nt C_tm)) Dv.treM) f_s_law_tree _ := ⟨Dv.ok_tre F_s_law_tree bq d_take d_one d_hue d_sign d_unl d_lnw, PySem.W.mg_of X G a_s_law_tree, k_s_law_tree, b_s_law_tree⟩
  have d_lti : Df l.prog w K mg base 1 "_law_ties" ["_law_m", "_law_point"] (Dv.spD (Dv.mkS K C [] (clsF C_nt C_tm)) Dv.ltiM) f_s_law_ties _ := ⟨Dv.ok_lti F_s_law_ties bq, PySem.W.mg_of X G a_s_law_ties, k_s_law_ties, b_s_law_ties⟩
  have d_lsz : Df l.prog w K mg base 3 "_law_size" ["_law_m"] (Dv.spD (Dv.mkS K C [] (clsF C_nt C_tm)) Dv.lszM) f_s_law_size _ := ⟨Dv.ok_lsz F_s_law_size bq d_lti, PySem.W.mg_of X G a_s_law_size, k_s_law_size, b_s_law_size⟩
  have d_lst : Df l.prog w K mg base 8 "_law_small_tree" ["_law_box_here", "_law_most", "_law_top"] (Dv.spD (Dv.mkS K C [] (clsF C_nt C_tm)) Dv.lstM) f_s_law_small_tree _ := ⟨Dv.ok_lst F_s_law_small_tree (PySem.W.mg_none_of X G z_int) d_tre d_lsz, PySem.W.mg_of X G a_s_law_small_tree, k_s_law_small_tree, b_s_law_small_tree⟩
  have d_lch : Df l.prog w K mg base 3 "_law_choices" ["_law_m"] (Dv.spD (Dv.mkS K C [] (clsF C_nt C_tm)) Dv.lchM) f_s_law_choices _ := ⟨Dv.ok_lch F_s_law_choices bq d_lti, PySem.W.mg_of X G a_s_law_choices, k_s_law_choices, b_s_law_choices⟩
  exact Dv.ok_law (cls := (clsF C_nt C_tm)) F_sLaw bq (PySem.W.mg_none_of X G z_sorted) (PySem.W.mg_of X G aC) mk FI oI ea em o_sBox d_made d_same d_lst d_lch d_chs
end Wb
open PySem PySem.W PyProof.Rows
set_option maxRecDepth 100000 in
set_option maxHeartbeats 0 in
theorem PySem.Challenge.cw_wardweb_k24_choices_of_trees_holds : PySem.Challenge.rw_wardweb_k24_choices_of_trees.Holds := by
  w_on; o_law; k_head; (case hw => w_witness2)
  k_fill
  refine L2.walk_of (l := PySem.Challenge.rw_wardweb_k24_choices_of_trees) (n := 63) (k := 14) (x := "_law_script") (CX := fun _ => L2.CX0) (sp := fun w => Dv.spLaw _) rfl (by decide) rfl ⟨rfl, by decide, by decide⟩ (fun w h Y => PySem.W.kIn_of Y) ?F (fun _ _ a ns hl _ hS => ⟨a, ns, rfl, hS, hl, fun _ => rfl⟩) (fun _ _ _ _ _ h => h)
  case F =>
    intro w mg fa h KX G hmg
    refine' Wb.all_mk KX G hmg ?a_sRA ?l_sRA ?c_sRA ?k_sRA ?a_sRM ?l_sRM ?c_sRM ?k_sRM ?a_sGat ?l_sGat ?c_sGat ?k_sGat ?a_sBox ?l_sBox ?c_sBox ?k_sBox ?a_sTake ?l_sTake ?c_sTake ?k_sTake ?a_sOne ?l_sOne ?c_sOne ?k_sOne ?a_sMixed ?l_sMixed ?c_sMixed ?k_sMixed ?a_sSame ?l_sSame ?c_sSame ?k_sSame ?a_sUnlike ?l_sUnlike ?c_sUnlike ?k_sUnlike ?a_sHue ?l_sHue ?c_sHue ?k_sHue ?a_sSign ?l_sSign ?c_sSign ?k_sSign ?a_sMade ?l_sMade ?c_sMade ?k_sMade ?a_sOEnd ?l_sOEnd ?c_sOEnd ?k_sOEnd ?a_sIsTree ?l_sIsTree ?c_sIsTree ?k_sIsTree ?a_sTieR ?l_sTieR ?c_sTieR ?k_sTieR ?a_sHang ?l_sHang ?c_sHang ?k_sHang ?a_sRNT ?l_sRNT ?c_sRNT ?k_sRNT ?a_sRGW ?l_sRGW ?c_sRGW ?k_sRGW ?a_sChoices ?l_sChoices ?c_sChoices ?k_sChoices ?a_s_law_moved ?l_s_law_moved ?c_s_law_moved ?k_s_law_moved ?a_s_law_numbered ?l_s_law_numbered ?c_s_law_numbered ?k_s_law_numbered ?a_s_law_tree ?l_s_law_tree ?c_s_law_tree ?k_s_law_tree ?a_s_law_ties ?l_s_law_ties ?c_s_law_ties ?k_s_law_ties ?a_s_law_size ?l_s_law_size ?c_s_law_size ?k_s_law_size ?a_s_law_small_tree ?l_s_law_small_tree ?c_s_law_small_tree ?k_s_law_small_tree ?a_s_law_choices ?l_s_law_choices ?c_s_law_choices ?k_s_law_choices ?a_sLaw ?l_sLaw ?c_sLaw ?k_sLaw ?z_len ?z_list ?z_range ?z_isinstance ?z_tuple ?z_bool ?z_int ?z_str ?z_all ?z_zip ?z_enumerate ?z_set ?z_sorted ?aC ?jI ?l_sInit ?c_sInit ?k_sInit ?da ?dm ?eta ?etm ?g1 ?g2 ?g3 ?g4 ?j_sPoints ?l_sPoints ?c_sPoints ?k_sPoints ?j_sArrows ?l_sArrows ?c_sArrows ?k_sArrows ?j_sMarks ?l_sMarks ?c_sMarks ?k_sMarks ?a_nt ?j_nt ?l_sENotTree ?c_sENotTree ?k_sENotTree ?a_tm ?j_tm ?l_sETooMany ?c_sETooMany ?k_sETooMany ?ck
    (case a_sRA => k_is)
    (case l_sRA => k_is)
    (case c_sRA => k_is)
    (case k_sRA => k_is)
    (case a_sRM => k_is)
    (case l_sRM => k_is)
    (case c_sRM => k_is)
    (case k_sRM => k_is)
    (case a_sGat => k_is)
    (case l_sGat => k_is)
    (case c_sGat => k_is)
    (case k_sGat => k_is)
    (case a_sBox => k_is)
    (case l_sBox => k_is)
    (case c_sBox => k_is)
    (case k_sBox => k_is)
    (case a_sTake => k_is)
    (case l_sTake => k_is)
    (case c_sTake => k_is)
    (case k_sTake => k_is)
    (case a_sOne => k_is)
    (case l_sOne => k_is)
    (case c_sOne => k_is)
    (case k_sOne => k_is)
    (case a_sMixed => k_is)
    (case l_sMixed => k_is)
    (case c_sMixed => k_is)
    (case k_sMixed => k_is)
    (case a_sSame => k_is)
    (case l_sSame => k_is)
    (case c_sSame => k_is)
    (case k_sSame => k_is)
    (case a_sUnlike => k_is)
    (case l_sUnlike => k_is)
    (case c_sUnlike => k_is)
    (case k_sUnlike => k_is)
    (case a_sHue => k_is)
    (case l_sHue => k_is)
    (case c_sHue => k_is)
    (case k_sHue => k_is)
    (case a_sSign => k_is)
    (case l_sSign => k_is)
    (case c_sSign => k_is)
    (case k_sSign => k_is)
    (case a_sMade => k_is)
    (case l_sMade => k_is)
    (case c_sMade => k_is)
    (case k_sMade => k_is)
    (case a_sOEnd => k_is)
    (case l_sOEnd => k_is)
    (case c_sOEnd => k_is)
    (case k_sOEnd => k_is)
    (case a_sIsTree => k_is)
    (case l_sIsTree => k_is)
    (case c_sIsTree => k_is)
    (case k_sIsTree => k_is)
    (case a_sTieR => k_is)
    (case l_sTieR => k_is)
    (case c_sTieR => k_is)
    (case k_sTieR => k_is)
    (case a_sHang => k_is)
    (case l_sHang => k_is)
    (case c_sHang => k_is)
    (case k_sHang => k_is)
    (case a_sRNT => k_is)
    (case l_sRNT => k_is)
    (case c_sRNT => k_is)
    (case k_sRNT => k_is)
    (case a_sRGW => k_is)
    (case l_sRGW => k_is)
    (case c_sRGW => k_is)
    (case k_sRGW => k_is)
    (case a_sChoices => k_is)
    (case l_sChoices => k_is)
    (case c_sChoices => k_is)
    (case k_sChoices => k_is)
    (case a_s_law_moved => k_is)
    (case l_s_law_moved => k_is)
    (case c_s_law_moved => k_is)
    (case k_s_law_moved => k_is)
    (case a_s_law_numbered => k_is)
    (case l_s_law_numbered => k_is)
    (case c_s_law_numbered => k_is)
    (case k_s_law_numbered => k_is)
    (case a_s_law_tree => k_is)
    (case l_s_law_tree => k_is)
    (case c_s_law_tree => k_is)
    (case k_s_law_tree => k_is)
    (case a_s_law_ties => k_is)
    (case l_s_law_ties => k_is)
    (case c_s_law_ties => k_is)
    (case k_s_law_ties => k_is)
    (case a_s_law_size => k_is)
    (case l_s_law_size => k_is)
    (case c_s_law_size => k_is)
    (case k_s_law_size => k_is)
    (case a_s_law_small_tree => k_is)
    (case l_s_law_small_tree => k_is)
    (case c_s_law_small_tree => k_is)
    (case k_s_law_small_tree => k_is)
    (case a_s_law_choices => k_is)
    (case l_s_law_choices => k_is)
    (case c_s_law_choices => k_is)
    (case k_s_law_choices => k_is)
    (case a_sLaw => k_is)
    (case l_sLaw => k_is)
    (case c_sLaw => k_is)
    (case k_sLaw => k_is)
    (case z_len => k_is)
    (case z_list => k_is)
    (case z_range => k_is)
    (case z_isinstance => k_is)
    (case z_tuple => k_is)
    (case z_bool => k_is)
    (case z_int => k_is)
    (case z_str => k_is)
    (case z_all => k_is)
    (case z_zip => k_is)
    (case z_enumerate => k_is)
    (case z_set => k_is)
    (case z_sorted => k_is)
    (case aC => k_is)
    (case jI => k_is)
    (case l_sInit => k_is)
    (case c_sInit => k_is)
    (case k_sInit => k_is)
    (case da => k_is)
    (case dm => k_is)
    (case eta => k_is)
    (case etm => k_is)
    (case g1 => k_is)
    (case g2 => k_is)
    (case g3 => k_is)
    (case g4 => k_is)
    (case j_sPoints => k_is)
    (case l_sPoints => k_is)
    (case c_sPoints => k_is)
    (case k_sPoints => k_is)
    (case j_sArrows => k_is)
    (case l_sArrows => k_is)
    (case c_sArrows => k_is)
    (case k_sArrows => k_is)
    (case j_sMarks => k_is)
    (case l_sMarks => k_is)
    (case c_sMarks => k_is)
    (case k_sMarks => k_is)
    (case a_nt => k_is)
    (case j_nt => k_is)
    (case l_sENotTree => k_is)
    (case c_sENotTree => k_is)
    (case k_sENotTree => k_is)
    (case a_tm => k_is)
    (case j_tm => k_is)
    (case l_sETooMany => k_is)
    (case c_sETooMany => k_is)
    (case k_sETooMany => k_is)
    (case ck => kernel_rfl)
