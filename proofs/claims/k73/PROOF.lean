import PyProof.Rows.All
import Wide.All
import OpenK.AllK
import Wide.FinOn
import KE.KExcInit
import KE.KExcIs
import HandS.ForMost
import HandS.Wide
import HandS.Codes
import HandS.ExcInit
import HandS.IsInst
import HandS.Walk
import HandS.Zip
import HandS.Style
import PySem.Challenge.RW_wardweb_k73_refusals_by_themselves
set_option Elab.async false
set_option linter.all false
set_option maxRecDepth 100000
namespace Wb
open PySem PySem.Spec PyProof.Rows L2
def topS (i : Nat) : Stmt := PySem.Challenge.pw_wardweb_k73_refusals_by_themselves.main.body.getD i (.Pass ⟨0, 0, 0, 0⟩)
abbrev sBox : Stmt := topS 30
abbrev sTake : Stmt := topS 31
abbrev sOne : Stmt := topS 32
/-! ### the drawing box -/
def bxO (q : Addr) (i r k : Int) : HO := .lst [.ref q, .int i, .int r, .int k]
def Bx (H : Hp) (b q : Addr) : Prop := ∃ (ns : List Int) (i r k : Int), H b = some (bxO q i r k) ∧ H q = some (.lst (ns.map V.int)) ∧ 0 ≤ i ∧ 0 ≤ r ∧ 0 ≤ k ∧ k < 2147483563
/-- all but b stands as it stood -/
def Kp (b : Addr) (H H' : Hp) : Prop := ∀ c, c ≠ b → H' c = H c
theorem box_ne {H : Hp} {b q : Addr} {ns : List Int} {i r k : Int} (hb : H b = some (bxO q i r k)) (hq : H q = some (.lst (ns.map V.int))) : q ≠ b := fun e => by
  subst e
  rw [hb] at hq
  injection hq with hq
  injection hq with hq
  cases ns with
  | nil => cases hq
  | cons n r => cases hq
section
variable {P : Program} {w : World} {K : PySem.W.Frag} {mg : Str → Option Value} {base : Heap}
def spTake : Sp := fun vs H Q _ => ∃ (b q : Addr) (many : Int), vs = [.ref b, .int many] ∧ Bx H b q ∧ 0 < many ∧ many < 2 ^ 100 ∧ ∀ v H', 0 ≤ v → v < many → Bx H' b q → Kp b H H' → Q (.int v) H'
theorem scT : FnScope ["_law_box_here", "_law_many", "_law_cell", "_law_got", "_law_seed"] ["_law_box_here", "_law_many"] (defScope sTake) := ⟨rfl, rfl, rfl, by decide +kernel, rfl, by decide +kernel, by decide +kernel⟩
theorem ok_take {f : Addr} {fd : FuncData} (F : Fun K "_law_take" "_law_take" sTake f fd) (ml : mg "len" = none) : FnOk P w K mg base CX0 1 f fd ["_law_box_here", "_law_many"] spTake := by
  refine F.ok scT (fun vs H Q E h => ?_) (fun cdv A outer s H vs Q E hr h => ?_)
  · obtain ⟨b, q, many, rfl, _⟩ := h
    rfl
  · obtain ⟨b, q, many, rfl, ⟨ns, i, r, k, hb, hq, hi, hr0, hk, hk2⟩, hm, hm2, K1⟩ := h
    refine ⟨_, C8.pss_cut (ps_if (PW.pt (pw_and (pt_cmpR op_eq (pe_ix ix_list (pv 0) pe_int (fun _ _ => rfl)) pe_int (nomark _)) (pw_and1 (pt_cmpR op_lt (pe_ix ix_list (pv 0) pe_int (fun _ _ => rfl)) (pe_callB call_len_seq (by rfl) ml PySem.boot_len (pa_cons (pe_ix ix_list (pv 0) pe_int (fun _ _ => rfl)) pa_nil)) (nomark _)))))
        (pss_cons (ps_set (i := 2) scT.nd rfl (.inl rfl) (pe_ix ix_list (pe_ix ix_list (pv 0) pe_int (fun _ _ => rfl)) (pe_ix ix_list (pv 0) pe_int (fun _ _ => rfl)) (fun _ _ => rfl)))
        (pss_cons (ps_asg (pe_op op_add (pe_ix ix_list (pv 0) pe_int (fun _ _ => rfl)) pe_int) (pg_sub (pv 0) pe_int set_list))
        (pss_one (ps_if (pt_cmpR op_ge (pv 2) (pe_op op_pow pe_int pe_int) (nomark _))
          (pss_one (ps_asg (pv 2) (pg_sub (pv 0) pe_int set_list)))
          (pss_one (ps_asg (pe_op op_mod (pe_op op_add (pe_op op_add (pe_op op_mul (pe_ix ix_list (pv 0) pe_int (fun _ _ => rfl)) pe_int) (pe_op op_mul (pe_op op_mod (pv 2) pe_int) pe_int)) (pe_ix ix_list (pv 0) pe_int (fun _ _ => rfl))) pe_int) (pg_sub (pv 0) pe_int set_list))))))) pss_nil)
      (pss_cons (ps_if (pt_cmpR op_gt (pe_ix ix_list (pv 0) pe_int (fun _ _ => rfl)) pe_int (nomark _))
        (pss_cons (ps_set (i := 3) scT.nd rfl (.inl rfl) (pe_op op_mod (pe_ix ix_list (pv 0) pe_int (fun _ _ => rfl)) (pv 1)))
        (pss_cons (ps_asg (pe_op op_fdivW (pe_ix ix_list (pv 0) pe_int (fun _ _ => rfl)) (pv 1)) (pg_sub (pv 0) pe_int set_list))
        (pss_one (ps_ret (pv 3))))) pss_nil)
      (pss_cons (ps_set (i := 4) scT.nd rfl (.inl rfl) (pe_ix ix_list (pv 0) pe_int (fun _ _ => rfl)))
      (pss_cons (ps_asg (pe_op op_mod (pe_op op_add (pe_op op_add (pe_op op_mul (pv 4) (pv 4)) (pe_op op_mul (pv 4) pe_int)) pe_int) pe_int) (pg_sub (pv 0) pe_int set_list))
      (pss_one (ps_ret (pe_op op_mod (pe_op op_add (pe_op op_fdiv (pe_ix ix_list (pv 0) pe_int (fun _ _ => rfl)) pe_int) (pe_op op_mul (pe_op op_mod (pe_ix ix_list (pv 0) pe_int (fun _ _ => rfl)) pe_int) pe_int)) (pv 1))))))), ?_⟩
    refine ⟨fun σ' H' => ∃ y2 y3 y4 i' r' k', σ' = [some (.ref b), some (.int many), y2, y3, y4] ∧ H' = upd H b (bxO q i' r' k') ∧ 0 ≤ i' ∧ 0 ≤ r' ∧ 0 ≤ k' ∧ k' < 2147483563, ?_, ?_⟩
    · have own : H = upd H b (bxO q i r k) := by
        funext c
        by_cases e : c = b
        · rw [e, upd_same, hb]
        · rw [upd_ne e]
      refine ⟨_, rfl, b, _, 2, .int r, rfl, rfl, SqL.of hb, atI_nat (j := 2) rfl, rfl, _, rfl, ?_⟩
      refine ite2 (fun e1 => ?_) (fun e1 => ?_)
      · refine ⟨_, rfl, b, _, 1, .int i, rfl, rfl, SqL.of hb, atI_nat (j := 1) rfl, _, rfl, b, _, 0, .ref q, rfl, rfl, SqL.of hb, atI_nat (j := 0) rfl, q, _, rfl, .inl (SqL.of hq), _, _, rfl, rfl, _, rfl, ?_⟩
        refine ite2 (fun e2 => ?_) (fun e2 => ?_)
        · have hlt : i < ((ns.map V.int).length : Int) := of_decide_eq_true e2
          have hj : i.toNat < ns.length := by
            rw [List.length_map] at hlt
            omega
          have gi : atI (ns.map V.int) i = some (.int ns[i.toNat]) := at_of (j := i.toNat) (by omega) (by
            rw [List.getElem?_map, List.getElem?_eq_getElem hj]
            rfl)
          have nqb : q ≠ b := box_ne hb hq
          -- cell = box[0][box[1]]
          refine ⟨_, rfl, b, _, 0, .ref q, rfl, rfl, SqL.of hb, atI_nat (j := 0) rfl, _, rfl, b, _, 1, .int i, rfl, rfl, SqL.of hb, atI_nat (j := 1) rfl, q, _, i, _, rfl, rfl, SqL.of hq, gi, ?_⟩
          -- box[1] = box[1] + 1
          refine ⟨_, rfl, b, _, 1, .int i, rfl, rfl, SqL.of hb, atI_nat (j := 1) rfl, _, _, rfl, rfl, _, rfl, b, _, 1, 1, rfl, rfl, hb, rfl, ?_⟩
          refine ⟨_, rfl, 10, 18, rfl, rfl, ⟨by decide, by decide, by decide⟩, _, _, rfl, rfl, _, rfl, ?_⟩
          refine ite2 (fun e3 => ?_) (fun e3 => ?_)
          · have h3 : (10 : Int) ^ (18 : Int).toNat ≤ ns[i.toNat] := of_decide_eq_true e3
            refine ⟨_, rfl, _, rfl, b, _, 2, 2, rfl, rfl, upd_same, rfl, ?_⟩
            refine ⟨_, _, _, i + 1, ns[i.toNat], k, rfl, ?_, by omega, ?_, hk, hk2⟩
            · rw [upd_upd]
              rfl
            · have : (0 : Int) ≤ (10 : Int) ^ (18 : Int).toNat := by decide
              omega
          · refine ⟨_, rfl, b, _, 3, .int k, rfl, rfl, SqL.of upd_same, atI_nat (j := 3) rfl, k, 40692, rfl, rfl, .inr ⟨by decide, by decide⟩, _, rfl, _, 2147483563, rfl, rfl, (by show (0 : Int) < 2147483563; decide), _, 53, rfl, rfl, .inr ⟨by decide, by decide⟩, _, _, rfl, rfl, _, rfl, b, _, 1, .int (i + 1), rfl, rfl, SqL.of upd_same, atI_nat (j := 1) rfl, _, _, rfl, rfl, _, 2147483563, rfl, rfl, (by show (0 : Int) < 2147483563; decide), ?_⟩
            refine ⟨_, rfl, b, _, 3, 3, rfl, rfl, upd_same, rfl, ?_⟩
            refine ⟨_, _, _, i + 1, r, _, rfl, by rw [upd_upd]; rfl, by omega, hr0, Int.emod_nonneg _ (by decide), Int.emod_lt_of_pos _ (by decide)⟩
        · exact ⟨_, _, _, i, r, k, rfl, own, hi, hr0, hk, hk2⟩
      · exact ⟨_, _, _, i, r, k, rfl, own, hi, hr0, hk, hk2⟩
    · rintro σ' H' ⟨y2, y3, y4, i', r', k', rfl, rfl, hi', hr', hk', hk2'⟩
      have nqb : q ≠ b := box_ne hb hq
      have hq' : ∀ o, (upd H b o) q = some (.lst (ns.map V.int)) := fun o => by
        rw [upd_ne nqb]
        exact hq
      have kp : ∀ o, Kp b H (upd H b o) := fun o c hc => upd_ne hc
      refine ⟨_, rfl, b, _, 2, .int r', rfl, rfl, SqL.of upd_same, atI_nat (j := 2) rfl, _, _, rfl, rfl, _, rfl, ?_⟩
      refine ite2 (fun e1 => ?_) (fun e1 => ?_)
      · refine ⟨_, rfl, b, _, 2, .int r', rfl, rfl, SqL.of upd_same, atI_nat (j := 2) rfl, _, rfl, _, _, rfl, rfl, hm, ?_⟩
        refine ⟨_, rfl, b, _, 2, .int r', rfl, rfl, SqL.of upd_same, atI_nat (j := 2) rfl, _, rfl, _, _, rfl, rfl, wide_div (b := 100) hm (by omega) (by decide) (by decide), ?_⟩
        refine ⟨_, rfl, b, _, 2, 2, rfl, rfl, upd_same, rfl, _, rfl, ?_⟩
        rw [upd_upd]
        exact K1 _ _ (Int.emod_nonneg _ (by omega)) (Int.emod_lt_of_pos _ hm) ⟨ns, i', r' / many, k', upd_same, hq' _, hi', Int.ediv_nonneg hr' (by omega), hk', hk2'⟩ (kp _)
      · refine ⟨_, rfl, b, _, 3, .int k', rfl, rfl, SqL.of upd_same, atI_nat (j := 3) rfl, ?_⟩
        have hb1 : (-(2 ^ 64) < k' ∧ k' < 2 ^ 64) := ⟨by omega, by omega⟩
        refine ⟨_, rfl, _, rfl, _, _, rfl, rfl, .inl hb1, _, rfl, _, 39373, rfl, rfl, .inl hb1, _, _, rfl, rfl, _, 90001, rfl, rfl, _, 2147483563, rfl, rfl, (by show (0 : Int) < 2147483563; decide), ?_⟩
        refine ⟨_, rfl, b, _, 3, 3, rfl, rfl, upd_same, rfl, ?_⟩
        have z1 := Int.emod_nonneg (k' * k' + k' * 39373 + 90001) (show (2147483563 : Int) ≠ 0 by decide)
        have z2 := Int.emod_lt_of_pos (k' * k' + k' * 39373 + 90001) (show (0 : Int) < 2147483563 by decide)
        refine ⟨_, rfl, b, _, 3, _, rfl, rfl, SqL.of upd_same, atI_nat (j := 3) rfl, _, 59, rfl, rfl, ⟨by decide, by decide⟩, _, rfl, b, _, 3, _, rfl, rfl, SqL.of upd_same, atI_nat (j := 3) rfl, _, 8117, rfl, rfl, (by show (0 : Int) < 8117; decide), _, 211, rfl, rfl, .inr ⟨by decide, by decide⟩, _, _, rfl, rfl, _, rfl, _, _, rfl, rfl, hm, ?_⟩
        rw [upd_upd]
        exact K1 _ _ (Int.emod_nonneg _ (by omega)) (Int.emod_lt_of_pos _ hm) ⟨ns, i', r', _, upd_same, hq' _, hi', hr', z1, z2⟩ (kp _)
end
end Wb
namespace Wb
open PySem PySem.Spec PyProof.Rows L2
abbrev sHue : Stmt := topS 34
abbrev sArrow : Stmt := topS 35
abbrev sName : Stmt := topS 36
theorem same_upd {H : Hp} {p : Addr} {o : HO} (h : H p = none) : Same H (upd H p o) := fun b x e => by
  rw [upd_ne (ne_of_none e h)]
  exact e
def Xt (b : Addr) (H H' : Hp) : Prop := ∀ c o, c ≠ b → H c = some o → H' c = some o
theorem Xt.refl (b : Addr) (H : Hp) : Xt b H H := fun _ _ _ h => h
theorem Xt.trans {b : Addr} {H H1 H2 : Hp} (x : Xt b H H1) (y : Xt b H1 H2) : Xt b H H2 := fun c o hc h => y c o hc (x c o hc h)
theorem Xt.new {b : Addr} {H H1 : Hp} {p : Addr} {o : HO} (x : Xt b H H1) (h : H1 p = none) : Xt b H (upd H1 p o) := fun c u hc e => by
  have q := x c u hc e
  rw [upd_ne (ne_of_none q h)]
  exact q
theorem Kp.xt {b : Addr} {H H' : Hp} (x : Kp b H H') : Xt b H H' := fun c o hc h => by
  rw [x c hc]
  exact h
theorem Same.xt {b : Addr} {H H' : Hp} (x : Same H H') : Xt b H H' := fun c o _ h => x c o h
theorem Bx.some {H : Hp} {b q : Addr} (x : Bx H b q) : ∃ o, H b = some o := by
  obtain ⟨ns, i, r, k, hb, _⟩ := x
  exact ⟨_, hb⟩
theorem Bx.new {H : Hp} {b q p : Addr} {o : HO} (x : Bx H b q) (h : H p = none) : Bx (upd H p o) b q := by
  obtain ⟨ns, i, r, k, hb, hq, z⟩ := x
  exact ⟨ns, i, r, k, by rw [upd_ne (ne_of_none hb h)]; exact hb, by rw [upd_ne (ne_of_none hq h)]; exact hq, z⟩
theorem Xt.free {b : Addr} {H H' : Hp} (x : Xt b H H') {p : Addr} (hb : p ≠ b) (h : H' p = none) : H p = none := by
  cases e : H p with
  | none => rfl
  | some o =>
    rw [x p o hb e] at h
    cases h
theorem Bx.ne {H : Hp} {b q p : Addr} (x : Bx H b q) (h : H p = none) : p ≠ b := fun e => by
  obtain ⟨o, ho⟩ := x.some
  rw [e, ho] at h
  cases h
theorem Bx.neq {H : Hp} {b q p : Addr} (x : Bx H b q) (h : H p = none) : p ≠ q := fun e => by
  obtain ⟨ns, i, r, k, hb, hq, _⟩ := x
  rw [e, hq] at h
  cases h
theorem Bx.upd {H : Hp} {b q p : Addr} {o : HO} (x : Bx H b q) (h1 : p ≠ b) (h2 : p ≠ q) : Bx (upd H p o) b q := by
  obtain ⟨ns, i, r, k, hb, hq, z⟩ := x
  exact ⟨ns, i, r, k, by rw [upd_ne h1.symm]; exact hb, by rw [upd_ne h2.symm]; exact hq, z⟩
theorem sum_ones : ∀ ys : List Str, (∀ y ∈ ys, y.length = 1) → (ys.map (·.length)).sum = ys.length
  | [], _ => rfl
  | y :: r, h => by
    rw [List.map_cons, List.sum_cons, sum_ones r fun z hz => h z (List.mem_cons_of_mem _ hz), h y List.mem_cons_self, List.length_cons]
    omega
/-- a list other than the box stays one -/
theorem Xt.sql {K : PySem.W.Frag} {b : Addr} {H H' : Hp} (x : Xt b H H') {p : Addr} (hb : p ≠ b) {xs : List V} (h : SqL K H p xs) : SqL K H' p xs := by
  rcases h with (h | ⟨o, h⟩) | h
  · exact .inl (.inl (x _ _ hb h))
  · exact .inl (.inr ⟨o, x _ _ hb h⟩)
  · exact .inr h
theorem cut63 {xs : List V} (h : xs.length ≤ 63) : cutV xs none (some 63) = xs := by
  unfold cutV
  rw [HT.sIx_none, show HT.sIx xs.length xs.length (some 63) = min 63 xs.length from HT.sIx_nat xs.length xs.length 63, List.drop_zero, Nat.sub_zero, show min 63 xs.length = xs.length by omega, List.take_length]
section
variable {P : Program} {w : World} {K : PySem.W.Frag} {mg : Str → Option Value} {base : Heap}
/-! ### the box made -/
def spBox (K : PySem.W.Frag) : Sp := fun vs H Q _ => ∃ (a : Addr) (ns : List Int), vs = [.ref a] ∧ SqL K H a (ns.map V.int) ∧ ns.length ≤ 63 ∧ ∀ p q H', H p = none → Bx H' p q → Same H H' → Q (.ref p) H'
theorem scB : FnScope ["_law_script", "_law_knot", "_law_cell"] ["_law_script"] (defScope sBox) := ⟨rfl, rfl, rfl, by decide +kernel, rfl, by decide +kernel, by decide +kernel⟩
theorem ok_box {f : Addr} {fd : FuncData} (F : Fun K "_law_box" "_law_box" sBox f fd) (ml : mg "len" = none) (mli : mg "list" = none) : FnOk P w K mg base CX0 1 f fd ["_law_script"] (spBox K) := by
  refine F.ok scB (fun vs H Q E h => ?_) (fun cdv A outer s H vs Q E hr h => ?_)
  · obtain ⟨a, ns, rfl, _⟩ := h
    rfl
  · obtain ⟨a, ns, rfl, hS, hlen, K1⟩ := h
    refine ⟨_, pss_cons (ps_set (i := 1) scB.nd rfl (.inl rfl) (pe_op op_add pe_int (pe_op op_mul pe_int (pe_callB call_len_seq (by rfl) ml PySem.boot_len (pa_cons (pe_slice sl_list (pv 0) po_none (po_some pe_int)) pa_nil)))))
      (pss_cons (ps_for PassesOwn.never rfl (pi_list (pe_slice sl_list (pv 0) po_none (po_some pe_int))) (pg_name (i := 2) scB.nd rfl (.inl rfl))
        (pss_one (ps_set (i := 1) scB.nd rfl (.inl rfl) (pe_op op_mod (pe_op op_add (pe_op op_add (pe_op op_mul (pv 1) pe_int) (pe_op op_mod (pv 2) pe_int)) pe_int) pe_int))))
      (pss_one (ps_ret (pe_lst (pa_cons (pe_callTy call_list_of (by rfl) mli boot_list (pa_cons (pe_slice sl_list (pv 0) po_none (po_some pe_int)) pa_nil)) (pa_cons pe_int (pa_cons pe_int (pa_cons (pv 1) pa_nil)))))))), ?_⟩
    have hL : (ns.map V.int).length ≤ 63 := by
      rw [List.length_map]
      exact hlen
    -- the first slice, its length
    refine ⟨_, rfl, 63, rfl, a, _, rfl, hS, fun p1 n1 => ?_⟩
    have s1 : Same H (upd H p1 (.lst (cutV (ns.map V.int) none (some 63)))) := same_upd n1
    refine ⟨p1, _, rfl, .inl (SqL.of upd_same), 61, _, rfl, rfl, .inl ⟨by decide, by decide⟩, 9147, _, rfl, rfl, ?_⟩
    generalize hH1 : upd H p1 (.lst (cutV (ns.map V.int) none (some 63))) = H1 at s1 ⊢
    -- the second slice, the loop
    refine ⟨_, rfl, 63, rfl, a, _, rfl, s1.seq hS, fun p2 n2 => ?_⟩
    have s2 : Same H1 (upd H1 p2 (.lst (cutV (ns.map V.int) none (some 63)))) := same_upd n2
    rw [cut63 hL] at s2 ⊢
    have e2 : (upd H1 p2 (.lst (ns.map V.int))) p2 = some (.lst (ns.map V.int)) := upd_same
    generalize upd H1 p2 (.lst (ns.map V.int)) = H2 at s2 e2 ⊢
    refine ⟨p2, rfl, ⟨_, SqL.of e2⟩, for_list (xs := ns.map V.int) (fun i σ H' => ∃ k y, σ = [some (.ref a), some (.int k), y] ∧ H' = H2 ∧ 0 ≤ k ∧ k < 2147483563) ?_ ?_ ?_ ?_⟩
    · refine ⟨_, _, rfl, rfl, ?_, ?_⟩
      · omega
      · omega
    · rintro i σ H' _ ⟨k, y, _, rfl, _⟩
      exact SqL.of e2
    · rintro i x σ H' hx ⟨k, y, rfl, rfl, hk0, hk1⟩
      obtain ⟨z, rfl⟩ : ∃ z, x = V.int z := by
        rw [List.getElem?_map] at hx
        cases e : ns[i]? with
        | none =>
          rw [e] at hx
          cases hx
        | some z =>
          rw [e] at hx
          exact ⟨z, (Option.some.inj hx).symm⟩
      refine ⟨_, rfl, k, 40014, rfl, rfl, .inr ⟨by decide, by decide⟩, _, rfl, z, 2147483563, rfl, rfl, (by show (0 : Int) < 2147483563; decide), _, _, rfl, rfl, _, 7, rfl, rfl, _, 2147483563, rfl, rfl, (by show (0 : Int) < 2147483563; decide), ?_⟩
      exact ⟨_, _, rfl, rfl, Int.emod_nonneg _ (by decide), Int.emod_lt_of_pos _ (by decide)⟩
    · rintro σ H' ⟨k, y, rfl, rfl, hk0, hk1⟩
      -- the end
      refine ⟨_, rfl, 63, rfl, a, _, rfl, s2.seq (s1.seq hS), fun p3 n3 => ?_⟩
      have s3 : Same H' (upd H' p3 (.lst (cutV (ns.map V.int) none (some 63)))) := same_upd n3
      rw [cut63 hL] at s3 ⊢
      have e3 : (upd H' p3 (.lst (ns.map V.int))) p3 = some (.lst (ns.map V.int)) := upd_same
      generalize upd H' p3 (.lst (ns.map V.int)) = H3 at s3 e3 ⊢
      refine ⟨p3, _, rfl, .inl (SqL.of e3), fun p4 n4 => ?_⟩
      have s4 : Same H3 (upd H3 p4 (.lst (ns.map V.int))) := same_upd n4
      have e4 : (upd H3 p4 (.lst (ns.map V.int))) p4 = some (.lst (ns.map V.int)) := upd_same
      generalize upd H3 p4 (.lst (ns.map V.int)) = H4 at s4 e4 ⊢
      refine ⟨_, rfl, by show 4 ≤ sizeLine; decide, fun p5 n5 => ?_⟩
      have s5 := ((s1.trans s2).trans s3).trans s4
      exact K1 p5 p4 _ (s5.free n5) ⟨ns, 0, 0, k, upd_same, by rw [upd_ne (ne_of_none e4 n5)]; exact e4, by decide, by decide, hk0, hk1⟩ (s5.trans (same_upd n5))
/-! ### one of some -/
def spOne (K : PySem.W.Frag) : Sp := fun vs H Q _ =>
  (∃ (b q p : Addr) (xs : List V), vs = [.ref b, .ref p] ∧ Bx H b q ∧ SqL K H p xs ∧ p ≠ b ∧ xs ≠ [] ∧ xs.length ≤ 1000 ∧ ∀ v H', v ∈ xs → Bx H' b q → Kp b H H' → Q v H') ∨
  (∃ (b q : Addr) (z : Str), vs = [.ref b, .str z] ∧ Bx H b q ∧ 0 < z.length ∧ z.length ≤ 1000 ∧ ∀ c H', c ∈ z.cps.toList → Bx H' b q → Kp b H H' → Q (.str ⟨#[c]⟩) H')
theorem scO : FnScope ["_law_box_here", "_law_some"] ["_law_box_here", "_law_some"] (defScope sOne) := ⟨rfl, rfl, rfl, by decide +kernel, rfl, by decide +kernel, by decide +kernel⟩
/-- what callers hold of a def -/
structure Df (P : Program) (w : World) (K : PySem.W.Frag) (mg : Str → Option Value) (base : Heap) (k : Nat) (x : Str) (ps : List Str) (sp : Sp) (f : Addr) (fd : FuncData) : Prop where
  ok : FnOk P w K mg base CX0 k f fd ps sp
  gl : mg x = some (.ref f)
  kp : PySem.W.keepIn K (.ref f) = true
  bd : Binds K fd ps []
theorem ok_one {f fT : Addr} {fd fdT : FuncData} (F : Fun K "_law_one" "_law_one" sOne f fd) (ml : mg "len" = none) (T : Df P w K mg base 1 "_law_take" ["_law_box_here", "_law_many"] spTake fT fdT) : FnOk P w K mg base CX0 2 f fd ["_law_box_here", "_law_some"] (spOne K) := by
  refine F.ok scO (fun vs H Q E h => ?_) (fun cdv A outer s H vs Q E hr h => ?_)
  · rcases h with ⟨b, q, p, xs, rfl, _⟩ | ⟨b, q, z, rfl, _⟩ <;> rfl
  · rcases h with ⟨b, q, p, xs, rfl, B, hS, hp, h0, hl, K1⟩ | ⟨b, q, z, rfl, B, h0, hl, K1⟩
    · refine ⟨_, pss_one (ps_ret (pe_ix ix_list (pv 1) (pe_call T.ok hr (by rfl) T.gl T.kp T.bd .nil pass0 (pa_cons (pv 0) (pa_cons (pe_callB call_len_seq (by rfl) ml PySem.boot_len (pa_cons (pv 1) pa_nil)) pa_nil))) (fun _ _ => rfl))), ?_⟩
      have h1 : 0 < xs.length := List.length_pos_iff.mpr h0
      refine ⟨_, rfl, _, rfl, _, rfl, p, _, rfl, .inl hS, b, q, (xs.length : Int), rfl, B, by omega, by omega, fun v H' v0 v1 B' kp => ?_⟩
      have hj : v.toNat < xs.length := by omega
      refine ⟨p, xs, v, xs[v.toNat], rfl, rfl, kp.xt.sql hp hS, at_of (j := v.toNat) (by omega) (List.getElem?_eq_getElem hj), ?_⟩
      exact K1 _ _ (List.getElem_mem hj) B' kp
    · refine ⟨_, pss_one (ps_ret (pe_ix ix_str (pv 1) (pe_call T.ok hr (by rfl) T.gl T.kp T.bd .nil pass0 (pa_cons (pv 0) (pa_cons (pe_callB call_len (by rfl) ml PySem.boot_len (pa_cons (pv 1) pa_nil)) pa_nil))) (fun _ _ => rfl))), ?_⟩
      have hz : z.length ≤ sizeLine := Nat.le_of_lt (small1000 hl)
      refine ⟨_, rfl, _, rfl, _, rfl, _, z.length, rfl, ⟨hz, rfl⟩, b, q, (z.length : Int), rfl, B, by omega, by omega, fun v H' v0 v1 B' kp => ?_⟩
      obtain ⟨j, rfl⟩ : ∃ j : Nat, v = (j : Int) := ⟨v.toNat, by omega⟩
      have hj : j < z.cps.toList.length := by
        rw [Array.length_toList]
        have : z.length = z.cps.size := rfl
        omega
      refine ⟨z, (j : Int), z.cps.toList[j], rfl, rfl, hz, atI_nat (List.getElem?_eq_getElem hj), ?_⟩
      exact K1 _ _ (List.getElem_mem hj) B' kp
/-! ### a colour -/
def spHue : Sp := fun vs H Q _ => ∃ b q, vs = [.ref b] ∧ Bx H b q ∧ ∀ (c : Str) H', c ∈ (["a", "b", "c"] : List Str) → Bx H' b q → Xt b H H' → Q (.str c) H'
theorem scH : FnScope ["_law_box_here"] ["_law_box_here"] (defScope sHue) := ⟨rfl, rfl, rfl, by decide +kernel, rfl, by decide +kernel, by decide +kernel⟩
theorem ok_hue {f fO : Addr} {fd fdO : FuncData} (F : Fun K "_law_hue" "_law_hue" sHue f fd) (O : Df P w K mg base 2 "_law_one" ["_law_box_here", "_law_some"] (spOne K) fO fdO) : FnOk P w K mg base CX0 3 f fd ["_law_box_here"] spHue := by
  refine F.ok scH (fun vs H Q E h => ?_) (fun cdv A outer s H vs Q E hr h => ?_)
  · obtain ⟨b, q, rfl, _⟩ := h
    rfl
  · obtain ⟨b, q, rfl, B, K1⟩ := h
    refine ⟨_, pss_one (ps_ret (pe_call O.ok hr (by rfl) O.gl O.kp O.bd .nil pass0 (pa_cons (pv 0) (pa_cons (pe_lst (pa_cons pe_str (pa_cons pe_str (pa_cons pe_str (pa_cons pe_str (pa_cons pe_str (pa_cons pe_str pa_nil))))))) pa_nil)))), ?_⟩
    refine ⟨_, rfl, by show 6 ≤ sizeLine; decide, fun p np => ?_⟩
    refine .inl ⟨b, q, p, _, rfl, B.new np, SqL.of upd_same, B.ne np, by simp, by show 6 ≤ 1000; decide, fun v H' hv B' kp => ?_⟩
    obtain ⟨c, rfl, hc⟩ : ∃ c : Str, v = .str c ∧ c ∈ (["a", "b", "c"] : List Str) := by
      simp only [List.mem_cons, List.not_mem_nil, or_false] at hv
      rcases hv with rfl | rfl | rfl | rfl | rfl | rfl
      all_goals exact ⟨_, rfl, by simp⟩
    exact K1 c H' hc B' (((Xt.refl b H).new np).trans kp.xt)
/-! ### an arrow -/
def spArrow : Sp := fun vs H Q _ => ∃ (b q : Addr) (m : Int), vs = [.ref b, .int m] ∧ Bx H b q ∧ 0 < m ∧ m < 2 ^ 100 ∧
  ∀ (p : Addr) (c : Str) (x y : Int) H', H p = none → p ≠ b → H' p = some (.tup [.str c, .int x, .int y]) → c ∈ (["a", "b", "c"] : List Str) → 0 ≤ x → x < m → 0 ≤ y → y < m → Bx H' b q → Xt b H H' → Q (.ref p) H'
theorem scA : FnScope ["_law_box_here", "_law_many"] ["_law_box_here", "_law_many"] (defScope sArrow) := ⟨rfl, rfl, rfl, by decide +kernel, rfl, by decide +kernel, by decide +kernel⟩
theorem ok_arrow {f fH fT : Addr} {fd fdH fdT : FuncData} (F : Fun K "_law_arrow" "_law_arrow" sArrow f fd) (G : Df P w K mg base 3 "_law_hue" ["_law_box_here"] spHue fH fdH) (T : Df P w K mg base 1 "_law_take" ["_law_box_here", "_law_many"] spTake fT fdT) : FnOk P w K mg base CX0 4 f fd ["_law_box_here", "_law_many"] spArrow := by
  refine F.ok scA (fun vs H Q E h => ?_) (fun cdv A outer s H vs Q E hr h => ?_)
  · obtain ⟨b, q, m, rfl, _⟩ := h
    rfl
  · obtain ⟨b, q, m, rfl, B, hm, hm2, K1⟩ := h
    refine ⟨_, pss_one (ps_ret (pe_tup (pa_cons (pe_call G.ok hr (by rfl) G.gl G.kp G.bd .nil pass0 (pa_cons (pv 0) pa_nil)) (pa_cons (pe_call T.ok (hr.mono (by decide)) (by rfl) T.gl T.kp T.bd .nil pass0 (pa_cons (pv 0) (pa_cons (pv 1) pa_nil))) (pa_cons (pe_call T.ok (hr.mono (by decide)) (by rfl) T.gl T.kp T.bd .nil pass0 (pa_cons (pv 0) (pa_cons (pv 1) pa_nil))) pa_nil))))), ?_⟩
    refine ⟨_, rfl, b, q, rfl, B, fun c H1 hc B1 x1 => ?_⟩
    refine ⟨_, rfl, _, rfl, b, q, m, rfl, B1, hm, hm2, fun x H2 a1 a2 B2 k2 => ?_⟩
    refine ⟨_, rfl, _, rfl, b, q, m, rfl, B2, hm, hm2, fun y H3 c1 c2 B3 k3 => ?_⟩
    refine ⟨by show 3 ≤ sizeLine; decide, fun p np => ?_⟩
    have xt := (x1.trans k2.xt).trans k3.xt
    exact K1 p c x y _ (xt.free (B3.ne np) np) (B3.ne np) upd_same hc a1 a2 c1 c2 (B3.new np) (xt.new np)
/-! ### a name -/
def spName : Sp := fun vs H Q _ => ∃ b q, vs = [.ref b] ∧ Bx H b q ∧ ∀ (z : Str) H', Bx H' b q → Xt b H H' → Q (.str z) H'
theorem scN : FnScope ["_law_box_here", "_law_size", "_law_k"] ["_law_box_here"] (defScope sName) := ⟨rfl, rfl, rfl, by decide +kernel, rfl, by decide +kernel, by decide +kernel⟩
theorem ok_name {f fO : Addr} {fd fdO : FuncData} (F : Fun K "_law_name" "_law_name" sName f fd) (mr : mg "range" = none) (O : Df P w K mg base 2 "_law_one" ["_law_box_here", "_law_some"] (spOne K) fO fdO) : FnOk P w K mg base CX0 3 f fd ["_law_box_here"] spName := by
  refine F.ok scN (fun vs H Q E h => ?_) (fun cdv A outer s H vs Q E hr h => ?_)
  · obtain ⟨b, q, rfl, _⟩ := h
    rfl
  · obtain ⟨b, q, rfl, B, K1⟩ := h
    refine ⟨_, pss_cons (ps_set (i := 1) scN.nd rfl (.inl rfl) (pe_call O.ok hr (by rfl) O.gl O.kp O.bd .nil pass0 (pa_cons (pv 0) (pa_cons (pe_lst (pa_cons pe_int (pa_cons pe_int (pa_cons pe_int (pa_cons pe_int (pa_cons pe_int pa_nil)))))) pa_nil))))
      (pss_one (ps_ret (pe_join pe_str (pe_lc (own := [("_law_k", 2)]) (g := gName 2) (tt := tYes) rfl scN.nd (pi_range1 rfl mr (pa_cons (pv 1) pa_nil)) (blkOk_by (N := ["_law_box_here", "_law_size", "_law_k"]) (sc := defScope sName) (by decide +kernel))
        (fun _ _ _ _ _ => pg_name (i := 2) scN.nd rfl (Or.inl rfl)) (fun _ _ _ _ _ => pts_nil) (fun _ _ _ _ _ => pe_call O.ok hr (by rfl) O.gl O.kp O.bd .nil pass0 (pa_cons (pv 0) (pa_cons pe_str pa_nil))))))), ?_⟩
    refine ⟨_, rfl, by show 5 ≤ sizeLine; decide, fun p np => ?_⟩
    refine .inl ⟨b, q, p, _, rfl, B.new np, SqL.of upd_same, B.ne np, by simp, by show 5 ≤ 1000; decide, fun v H1 hv B1 k1 => ?_⟩
    obtain ⟨n, rfl, hn0, hn6⟩ : ∃ n : Int, v = .int n ∧ 0 ≤ n ∧ n ≤ 6 := by
      simp only [List.mem_cons, List.not_mem_nil, or_false] at hv
      rcases hv with rfl | rfl | rfl | rfl | rfl
      all_goals exact ⟨_, rfl, by decide, by decide⟩
    have x1 := ((Xt.refl b H).new (o := .lst [.int 1, .int 1, .int 2, .int 3, .int 6]) np).trans k1.xt
    refine ⟨⟨_, rfl⟩, _, rfl, n, rfl, by omega, by omega, fun D nD => ?_⟩
    refine lc_range (lo := 0) (n := n.toNat) (fun i H' => ∃ ys : List Str, H' D = some (.lst (ys.map V.str)) ∧ ys.length = i ∧ (∀ y ∈ ys, y.length = 1) ∧ Bx H' b q ∧ Xt b H1 H') ?_ ?_ ?_
    · exact ⟨[], upd_same, rfl, (fun y hy => nomatch hy), B1.new nD, (Xt.refl b H1).new nD⟩
    · rintro i H' hi ⟨ys, hD, hl, h1, B', x'⟩
      refine ⟨rfl, ?_⟩
      dsimp only [tYes]
      refine iteT ?_
      refine ⟨_, rfl, .inr ⟨b, q, _, rfl, B', by decide, by decide, fun c H2 hc B2 k2 => ?_⟩⟩
      have nDb : D ≠ b := B1.ne nD
      refine ⟨ys.map V.str, by rw [k2 D nDb]; exact hD, by rw [List.length_map]; exact small1000 (by omega), ys ++ [⟨#[c]⟩], ?_, by rw [List.length_append, hl]; rfl, ?_, ?_, ?_⟩
      · rw [upd_same, List.map_append]
        rfl
      · intro y hy
        rcases List.mem_append.mp hy with hy | hy
        · exact h1 y hy
        · rw [List.mem_singleton.mp hy]
          rfl
      · exact B2.upd nDb (B1.neq nD)
      · intro c' o hc' e
        have q := k2.xt c' o hc' (x' c' o hc' e)
        rw [upd_ne (fun z => by rw [z, nD] at e; cases e)]
        exact q
    · rintro H' ⟨ys, hD, hl, h1, B', x'⟩
      refine ⟨_, D, ys, rfl, rfl, .inl (SqL.of hD), ?_, ?_⟩
      · rw [sum_ones ys h1]
        show ys.length + ys.length * 0 ≤ 16777216
        omega
      · exact K1 _ _ B' (x1.trans x')
end
end Wb
namespace Wb
open PySem PySem.Spec PyProof.Rows L2 RZ
abbrev sSame : Stmt := topS 33
def scV : V → Bool
  | .non => true
  | .bl _ => true
  | .int _ => true
  | .str _ => true
  | _ => false
/-- both are the same data, at most n deep -/
def Sv (K : PySem.W.Frag) (H : Hp) : Nat → V → V → Prop
  | 0, x, y => scV x = true ∧ x = y
  | n + 1, x, y => (scV x = true ∧ x = y) ∨ ∃ (p q : Addr) (xs ys : List V), x = .ref p ∧ y = .ref q ∧ ((SqL K H p xs ∧ SqL K H q ys) ∨ (SqT K H p xs ∧ SqT K H q ys)) ∧ xs.length ≤ 100000 ∧ Paired (Sv K H n) xs ys
theorem Sv.same {K : PySem.W.Frag} {H H' : Hp} (s : Same H H') : ∀ (n : Nat) (x y : V), Sv K H n x y → Sv K H' n x y
  | 0, _, _, h => h
  | n + 1, x, y, h => by
    rcases h with h | ⟨p, q, xs, ys, e1, e2, h, hl, r⟩
    · exact .inl h
    · refine .inr ⟨p, q, xs, ys, e1, e2, ?_, hl, Paired.mapP r fun a b => Sv.same s n a b⟩
      rcases h with ⟨h1, h2⟩ | ⟨h1, h2⟩
      · exact .inl ⟨s.seq h1, s.seq h2⟩
      · refine .inr ⟨?_, ?_⟩
        · rcases h1 with (h | ⟨o, h⟩) | h
          · exact .inl (.inl (s _ _ h))
          · exact .inl (.inr ⟨o, s _ _ h⟩)
          · exact .inr h
        · rcases h2 with (h | ⟨o, h⟩) | h
          · exact .inl (.inl (s _ _ h))
          · exact .inl (.inr ⟨o, s _ _ h⟩)
          · exact .inr h
theorem same_tup {K : PySem.W.Frag} {H H' : Hp} {a : Addr} {xs : List V} (e : Same H H') (h : SqT K H a xs) : SqT K H' a xs := by
  rcases h with (h | ⟨o, h⟩) | h
  · exact .inl (.inl (e _ _ h))
  · exact .inl (.inr ⟨o, e _ _ h⟩)
  · exact .inr h
theorem ty_list {K : PySem.W.Frag} {H : Hp} {p : Addr} {xs : List V} (h : SqL K H p xs) : TyX K H (.ref p) (.type "list") := by
  rcases h with (h | ⟨o, h⟩) | ⟨o, its, n, h, hc, _⟩
  · exact .base (.lst h)
  · exact .base (.frz h)
  · exact .kList h hc
theorem ty_tup {K : PySem.W.Frag} {H : Hp} {p : Addr} {xs : List V} (h : SqT K H p xs) : TyX K H (.ref p) (.type "tuple") := by
  rcases h with (h | ⟨o, h⟩) | ⟨o, its, n, h, hc, _⟩
  · exact .base (.tup h)
  · exact .fTuple h
  · exact .kTuple h hc
theorem walk_zipT {K : PySem.W.Frag} {a b : Addr} {xs ys : List V} {n : Nat} (hn : n = min xs.length ys.length) : Walk (ItzT K a b) n (fun H => SqT K H a xs ∧ SqT K H b ys) (YPair (fun i => xs[i]?) (fun i => ys[i]?)) where
  goes := fun i H hi g => ⟨xs, ys, xs[i]'(by omega), ys[i]'(by omega), g.1, g.2, List.getElem?_eq_getElem _, List.getElem?_eq_getElem _⟩
  stops := fun H g => ⟨xs, ys, g.1, g.2, by omega⟩
  yields := fun i H v H' hi g y => by
    obtain ⟨T, x, z, e, nT, eH, h1, h2⟩ := y
    exact ⟨T, x, z, e, nT, eH, h1 _ g.1, h2 _ g.2⟩
theorem paired_at {α β : Type} {F : α → β → Prop} : ∀ {l : List α} {m : List β}, Paired F l m → ∀ (i : Nat) (x : α) (y : β), l[i]? = some x → m[i]? = some y → F x y
  | _, _, .nil, i, _, _, h, _ => by simp at h
  | _, _, .cons r _, 0, x, y, h1, h2 => by
    cases h1
    cases h2
    exact r
  | _, _, .cons _ t, i + 1, x, y, h1, h2 => paired_at t i x y h1 h2
section
variable {P : Program} {w : World} {K : PySem.W.Frag} {mg : Str → Option Value} {base : Heap}
def spSame (K : PySem.W.Frag) (n : Nat) : Sp := fun vs H Q _ => ∃ x y, vs = [x, y] ∧ Sv K H n x y ∧ ∀ H', Same H H' → Q (.bl true) H'
theorem scS : FnScope ["_law_found", "_law_due", "_law_one_here", "_law_other"] ["_law_found", "_law_due"] (defScope sSame) := ⟨rfl, rfl, rfl, by decide +kernel, rfl, by decide +kernel, by decide +kernel⟩
structure SmT (mg : Str → Option Value) : Prop where
  isi : mg "isinstance" = none
  lst : mg "list" = none
  tup : mg "tuple" = none
  bool : mg "bool" = none
  int : mg "int" = none
  str : mg "str" = none
  len : mg "len" = none
  all : mg "all" = none
  zip : mg "zip" = none
/-- a plain value against itself -/
theorem same_plain {n k : Nat} {f : Addr} {fd : FuncData} {cdv : Value} {A : Around} {outer : List Env} {s : Shared} {H : Hp} {Q : VK} {E : XK} (M : SmT mg) {v : V} {t : String} {b1 b2 b3 : Bool} (nn : v ≠ .non) (ty : TyX K H v (.type t)) (sc : scal v v = true)
    (k1 : kitB t "list" = some false) (k2 : kitB t "tuple" = some false) (k3 : kitB t "bool" = some b1) (k4 : kitB t "int" = some b2) (k5 : kitB t "str" = some b3) (q : Q (.bl true) H) :
    ∃ tt, PSs (cxOf CX0 P w K mg base ["_law_found", "_law_due", "_law_one_here", "_law_other"] "_law_same" (defScope sSame) f cdv A outer s H E).nox (defBody sSame) tt ∧ tt { nx := fun _ H' => Q .non H', rt := Q } (start ["_law_found", "_law_due", "_law_one_here", "_law_other"] [v, v]) H := by
  refine ⟨_, pss_cons (ps_if (pt_cmpR op_isN (pv 1) pe_non (nomark _)) (pss_one ps_never) pss_nil)
    (pss_cons (ps_if (PW.pt (pw_or (pt_val (pe_callB call_isi (by rfl) M.isi boot_isinstance (pa_cons (pv 1) (pa_cons (pe_bltn (v := .ty "list") (by rfl) M.lst (by decide +kernel) rfl) pa_nil)))) (pw_or1 (pt_val (pe_callB call_isi (by rfl) M.isi boot_isinstance (pa_cons (pv 1) (pa_cons (pe_bltn (v := .ty "tuple") (by rfl) M.tup (by decide +kernel) rfl) pa_nil))))))) (pss_cons ps_never (pss_one ps_never)) pss_nil)
    (pss_cons (ps_if (PW.pt (pw_or (pt_cmpR op_ne (pe_callB call_isi (by rfl) M.isi boot_isinstance (pa_cons (pv 1) (pa_cons (pe_bltn (v := .ty "bool") (by rfl) M.bool (by decide +kernel) rfl) pa_nil))) (pe_callB call_isi (by rfl) M.isi boot_isinstance (pa_cons (pv 0) (pa_cons (pe_bltn (v := .ty "bool") (by rfl) M.bool (by decide +kernel) rfl) pa_nil))) (nomark _)) (pw_or1 (pt_cmpR op_ne (pe_callB call_isi (by rfl) M.isi boot_isinstance (pa_cons (pv 1) (pa_cons (pe_bltn (v := .ty "int") (by rfl) M.int (by decide +kernel) rfl) pa_nil))) (pe_callB call_isi (by rfl) M.isi boot_isinstance (pa_cons (pv 0) (pa_cons (pe_bltn (v := .ty "int") (by rfl) M.int (by decide +kernel) rfl) pa_nil))) (nomark _))))) (pss_one ps_never) pss_nil)
    (pss_one (ps_ret (pe_and (pe_cmpR op_eq (pe_callB call_isi (by rfl) M.isi boot_isinstance (pa_cons (pv 0) (pa_cons (pe_bltn (v := .ty "str") (by rfl) M.str (by decide +kernel) rfl) pa_nil))) (pe_callB call_isi (by rfl) M.isi boot_isinstance (pa_cons (pv 1) (pa_cons (pe_bltn (v := .ty "str") (by rfl) M.str (by decide +kernel) rfl) pa_nil))) (nomark _)) (pe_one (pe_cmpR op_eq (pv 0) (pv 1) (nomark _)))))))), ?_⟩
  refine ⟨_, rfl, rfl, _, rfl, ite2 (fun e => absurd (of_decide_eq_true e) nn) fun _ => ?_⟩
  refine ⟨_, rfl, v, _, _, _, _, rfl, .ty "list", ty, kit_ty k1, _, rfl, iteF ?_⟩
  refine ⟨_, rfl, v, _, _, _, _, rfl, .ty "tuple", ty, kit_ty k2, _, rfl, iteF ?_⟩
  refine ⟨_, rfl, v, _, _, _, _, rfl, .ty "bool", ty, kit_ty k3, _, rfl, v, _, _, _, _, rfl, .ty "bool", ty, kit_ty k3, rfl, _, rfl, ?_⟩
  refine iteNS rfl ?_
  refine ⟨_, rfl, v, _, _, _, _, rfl, .ty "int", ty, kit_ty k4, _, rfl, v, _, _, _, _, rfl, .ty "int", ty, kit_ty k4, rfl, _, rfl, ?_⟩
  refine iteNS rfl ?_
  refine ⟨_, rfl, v, _, _, _, _, rfl, .ty "str", ty, kit_ty k5, _, rfl, v, _, _, _, _, rfl, .ty "str", ty, kit_ty k5, rfl, true, ?_, ?_⟩
  · rw [decide_eq_true rfl]
  · refine iteT ⟨_, rfl, _, rfl, sc, ?_⟩
    rw [decide_eq_true rfl]
    exact q
/-- a plain value against itself, any -/
theorem same_any {f : Addr} {fd : FuncData} {cdv : Value} {A : Around} {outer : List Env} {s : Shared} {H : Hp} {Q : VK} {E : XK} (M : SmT mg) {v : V} (hs : scV v = true) (q : Q (.bl true) H) :
    ∃ tt, PSs (cxOf CX0 P w K mg base ["_law_found", "_law_due", "_law_one_here", "_law_other"] "_law_same" (defScope sSame) f cdv A outer s H E).nox (defBody sSame) tt ∧ tt { nx := fun _ H' => Q .non H', rt := Q } (start ["_law_found", "_law_due", "_law_one_here", "_law_other"] [v, v]) H := by
  cases v with
  | non =>
    refine ⟨_, pss_cons (ps_if (pt_cmpR op_isN (pv 1) pe_non (nomark _)) (pss_one (ps_ret (pe_cmpR op_isN (pv 0) pe_non (nomark _)))) pss_nil) (pss_cons ps_never (pss_cons ps_never (pss_one ps_never))), ?_⟩
    exact ⟨_, rfl, rfl, _, rfl, iteT ⟨_, rfl, rfl, q⟩⟩
  | bl b => exact same_plain (n := 0) (k := 0) (fd := fd) (b1 := true) (b2 := true) (b3 := false) M (fun z => nomatch z) (.base (.bl b)) rfl (by decide +kernel) (by decide +kernel) (by decide +kernel) (by decide +kernel) (by decide +kernel) q
  | int i => exact same_plain (n := 0) (k := 0) (fd := fd) (b1 := false) (b2 := true) (b3 := false) M (fun z => nomatch z) (.base (.int i)) rfl (by decide +kernel) (by decide +kernel) (by decide +kernel) (by decide +kernel) (by decide +kernel) q
  | str z => exact same_plain (n := 0) (k := 0) (fd := fd) (b1 := false) (b2 := false) (b3 := true) M (fun z => nomatch z) (.base (.str z)) rfl (by decide +kernel) (by decide +kernel) (by decide +kernel) (by decide +kernel) (by decide +kernel) q
  | byt _ => cases hs
  | flt _ => cases hs
  | ref _ => cases hs
  | ty _ => cases hs
theorem ok_same {f : Addr} {fd : FuncData} (F : Fun K "_law_same" "_law_same" sSame f fd) (gl : mg "_law_same" = some (.ref f)) (bd : Binds K fd ["_law_found", "_law_due"] []) (M : SmT mg) : ∀ n, FnOk P w K mg base CX0 (n + 1) f fd ["_law_found", "_law_due"] (spSame K n) := by
  intro n
  induction n with
  | zero =>
    refine F.ok scS (fun vs H Q E h => ?_) (fun cdv A outer s H vs Q E hr h => ?_)
    · obtain ⟨x, y, rfl, _⟩ := h
      rfl
    · obtain ⟨x, y, rfl, ⟨hs, rfl⟩, q⟩ := h
      exact same_any (fd := fd) M hs (q _ (Same.refl _))
  | succ n ih =>
    refine F.ok scS (fun vs H Q E h => ?_) (fun cdv A outer s H vs Q E hr h => ?_)
    · obtain ⟨x, y, rfl, _⟩ := h
      rfl
    · obtain ⟨x, y, rfl, hs, q⟩ := h
      rcases hs with ⟨hs, rfl⟩ | ⟨p1, p2, xs, ys, rfl, rfl, hS, hl, pr⟩
      · exact same_any (fd := fd) M hs (q _ (Same.refl _))
      · -- two lists, or two tuples
        have hlen : xs.length = ys.length := Paired.length pr
        refine ⟨_, pss_cons (ps_if (pt_cmpR op_isN (pv 1) pe_non (nomark _)) (pss_one ps_never) pss_nil)
          (pss_cons (ps_if (PW.pt (pw_or (pt_val (pe_callB call_isi (by rfl) M.isi boot_isinstance (pa_cons (pv 1) (pa_cons (pe_bltn (v := .ty "list") (by rfl) M.lst (by decide +kernel) rfl) pa_nil)))) (pw_or1 (pt_val (pe_callB call_isi (by rfl) M.isi boot_isinstance (pa_cons (pv 1) (pa_cons (pe_bltn (v := .ty "tuple") (by rfl) M.tup (by decide +kernel) rfl) pa_nil)))))))
            (pss_cons (ps_if (PW.pt (pw_or (pt_cmpR op_ne (pe_callB call_isi (by rfl) M.isi boot_isinstance (pa_cons (pv 0) (pa_cons (pe_bltn (v := .ty "list") (by rfl) M.lst (by decide +kernel) rfl) pa_nil))) (pe_callB call_isi (by rfl) M.isi boot_isinstance (pa_cons (pv 1) (pa_cons (pe_bltn (v := .ty "list") (by rfl) M.lst (by decide +kernel) rfl) pa_nil))) (nomark _)) (pw_or1 (pt_cmpR op_ne (pe_callB call_isi (by rfl) M.isi boot_isinstance (pa_cons (pv 0) (pa_cons (pe_bltn (v := .ty "tuple") (by rfl) M.tup (by decide +kernel) rfl) pa_nil))) (pe_callB call_isi (by rfl) M.isi boot_isinstance (pa_cons (pv 1) (pa_cons (pe_bltn (v := .ty "tuple") (by rfl) M.tup (by decide +kernel) rfl) pa_nil))) (nomark _))))) (pss_one ps_never) pss_nil)
            (pss_one (ps_ret (pe_and (pe_cmpR op_eq (pe_callB call_len_seq (by rfl) M.len PySem.boot_len (pa_cons (pv 0) pa_nil)) (pe_callB call_len_seq (by rfl) M.len PySem.boot_len (pa_cons (pv 1) pa_nil)) (nomark _))
              (pe_one (pe_callB (cr_all rfl) (by rfl) M.all (by decide +kernel) (pa_cons
                (pe_lc (own := [("_law_one_here", 2), ("_law_other", 3)]) (g := gTup K 2 (gCons (gName 2) (gCons (gName 3) gNil))) (tt := tYes) rfl scS.nd (pi_zipA (by rfl) M.zip (pa_cons (pv 0) (pa_cons (pv 1) pa_nil)))
                  (blkOk_by (N := ["_law_found", "_law_due", "_law_one_here", "_law_other"]) (sc := defScope sSame) (by decide +kernel))
                  (fun _ _ _ _ _ => pg_tup rfl (pgs_cons (pg_name (i := 2) scS.nd rfl (.inl rfl)) (pgs_cons (pg_name (i := 3) scS.nd rfl (.inl rfl)) pgs_nil))) (fun _ _ _ _ _ => pts_nil)
                  (fun _ _ _ _ _ => pe_call ih hr (by rfl) gl F.kp bd .nil pass0 (pa_cons (pv 2) (pa_cons (pv 3) pa_nil)))) pa_nil)))))))
            pss_nil)
          (pss_cons ps_never (pss_one ps_never))), ?_⟩
        refine ⟨_, rfl, rfl, _, rfl, ite2 (fun e => (nomatch (of_decide_eq_true e))) fun _ => ?_⟩
        have fin : ∀ H' D, Same H H' → H' D = some (.lst ((List.replicate xs.length true).map V.bl)) → Q (.bl true) H' := fun H' D s' _ => q H' s'
        rcases hS with ⟨h1, h2⟩ | ⟨h1, h2⟩
        · refine ⟨_, rfl, _, _, _, _, _, rfl, .ty "list", ty_list h2, kit_ty (r := true) (by decide +kernel), _, rfl, iteT ?_⟩
          refine iteT ?_
          refine ⟨_, rfl, _, _, _, _, _, rfl, .ty "list", ty_list h1, kit_ty (r := true) (by decide +kernel), _, rfl, _, _, _, _, _, rfl, .ty "list", ty_list h2, kit_ty (r := true) (by decide +kernel), rfl, _, rfl, iteNS rfl ?_⟩
          refine ⟨_, rfl, _, _, _, _, _, rfl, .ty "tuple", ty_list h1, kit_ty (r := false) (by decide +kernel), _, rfl, _, _, _, _, _, rfl, .ty "tuple", ty_list h2, kit_ty (r := false) (by decide +kernel), rfl, _, rfl, iteNS rfl ?_⟩
          refine ⟨_, rfl, p1, xs, rfl, .inl h1, _, rfl, p2, ys, rfl, .inl h2, rfl, true, by rw [hlen, decide_eq_true rfl], iteT ?_⟩
          refine ⟨_, rfl, _, rfl, p1, p2, xs, ys, rfl, .inl ⟨h1, h2, fun D nD => ?_⟩⟩
          refine lc_it (walk_zip (K := K) (a := p1) (b := p2) (xs := xs) (ys := ys) (n := xs.length) (by omega)) (fun i H' => H' D = some (.lst ((List.replicate i true).map V.bl)) ∧ Same H H' ∧ i ≤ xs.length) ⟨upd_same, same_upd nD, Nat.zero_le _⟩ (fun i H' _ hp => ⟨hp.2.1.seq h1, hp.2.1.seq h2⟩) ?_ ?_
          · rintro i v H1 H2 hi ⟨hD, sm, _⟩ ⟨T, x, y, rfl, nT, rfl, gx, gy⟩
            have sT : Same H1 (upd H1 T (.tup [x, y])) := same_upd nT
            refine ⟨T, [x, y], rfl, SqT.of upd_same, rfl, x, [y], rfl, y, [], rfl, rfl, rfl, ?_⟩
            dsimp only [tYes]
            refine iteT ⟨_, rfl, _, rfl, x, y, rfl, Sv.same (sm.trans sT) n x y (paired_at pr i x y gx gy), fun H3 s3 => ?_⟩
            refine ⟨_, s3 _ _ (sT _ _ hD), by rw [List.length_map, List.length_replicate]; exact Nat.lt_of_lt_of_le hi (Nat.le_trans hl (by decide)), ?_, ?_, hi⟩
            · rw [upd_same, List.replicate_succ', List.map_append]
              rfl
            · intro c o e
              rw [upd_ne (ne_of_none e nD)]
              exact s3 _ _ (sT _ _ (sm _ _ e))
          · rintro H' ⟨hD, sm, _⟩
            refine ⟨D, List.replicate xs.length true, rfl, SqL.of hD, ?_⟩
            rw [show (List.replicate xs.length true).all id = true by simp]
            exact q H' sm
        · refine ⟨_, rfl, _, _, _, _, _, rfl, .ty "list", ty_tup h2, kit_ty (r := false) (by decide +kernel), _, rfl, iteF ?_⟩
          refine ⟨_, rfl, _, _, _, _, _, rfl, .ty "tuple", ty_tup h2, kit_ty (r := true) (by decide +kernel), _, rfl, iteT ?_⟩
          refine ⟨_, rfl, _, _, _, _, _, rfl, .ty "list", ty_tup h1, kit_ty (r := false) (by decide +kernel), _, rfl, _, _, _, _, _, rfl, .ty "list", ty_tup h2, kit_ty (r := false) (by decide +kernel), rfl, _, rfl, iteNS rfl ?_⟩
          refine ⟨_, rfl, _, _, _, _, _, rfl, .ty "tuple", ty_tup h1, kit_ty (r := true) (by decide +kernel), _, rfl, _, _, _, _, _, rfl, .ty "tuple", ty_tup h2, kit_ty (r := true) (by decide +kernel), rfl, _, rfl, iteNS rfl ?_⟩
          refine ⟨_, rfl, p1, xs, rfl, .inr h1, _, rfl, p2, ys, rfl, .inr h2, rfl, true, by rw [hlen, decide_eq_true rfl], iteT ?_⟩
          refine ⟨_, rfl, _, rfl, p1, p2, xs, ys, rfl, .inr ⟨h1, h2, fun D nD => ?_⟩⟩
          refine lc_it (walk_zipT (K := K) (a := p1) (b := p2) (xs := xs) (ys := ys) (n := xs.length) (by omega)) (fun i H' => H' D = some (.lst ((List.replicate i true).map V.bl)) ∧ Same H H' ∧ i ≤ xs.length) ⟨upd_same, same_upd nD, Nat.zero_le _⟩ (fun i H' _ hp => ⟨same_tup hp.2.1 h1, same_tup hp.2.1 h2⟩) ?_ ?_
          · rintro i v H1 H2 hi ⟨hD, sm, _⟩ ⟨T, x, y, rfl, nT, rfl, gx, gy⟩
            have sT : Same H1 (upd H1 T (.tup [x, y])) := same_upd nT
            refine ⟨T, [x, y], rfl, SqT.of upd_same, rfl, x, [y], rfl, y, [], rfl, rfl, rfl, ?_⟩
            dsimp only [tYes]
            refine iteT ⟨_, rfl, _, rfl, x, y, rfl, Sv.same (sm.trans sT) n x y (paired_at pr i x y gx gy), fun H3 s3 => ?_⟩
            refine ⟨_, s3 _ _ (sT _ _ hD), by rw [List.length_map, List.length_replicate]; exact Nat.lt_of_lt_of_le hi (Nat.le_trans hl (by decide)), ?_, ?_, hi⟩
            · rw [upd_same, List.replicate_succ', List.map_append]
              rfl
            · intro c o e
              rw [upd_ne (ne_of_none e nD)]
              exact s3 _ _ (sT _ _ (sm _ _ e))
          · rintro H' ⟨hD, sm, _⟩
            refine ⟨D, List.replicate xs.length true, rfl, SqL.of hD, ?_⟩
            rw [show (List.replicate xs.length true).all id = true by simp]
            exact q H' sm
end
end Wb
namespace Xk
open PySem PySem.Spec PyProof.Rows L2
open PySem.W (excOver excInitIn hasDictIn findIn)
/-! ### own error classes of any built-in base, as values -/
structure Exk (K : PySem.W.Frag) (C : Addr) : Prop where
  base : ∃ (B nI iI : String) (bmB : List Value), ExcBaseFacts B nI iI bmB ∧ StoreFacts B bmB "object.__setattr__" "object" ∧ excInitIn K C bmB nI = true ∧ excOver K C bmB = true
  sa : findIn K (.ref C) "__setattr__" = some (some (.builtin "object.__setattr__"))
  hd : hasDictIn K C = true
  ga : findIn K (.ref C) "__getattribute__" = some (some (.builtin "BaseException.__getattribute__"))
  gg : findIn K (.ref C) "__getattr__" = some none
  ex : PySem.W.subIn K (.ref C) (.type "BaseException") = some true
  kC : PySem.W.keepIn K (.ref C) = true
  cl : findIn K (.ref C) "__class__" = some (some (.builtin "object.__class__"))
  dg : PySem.W.specialIn K (.builtin "object.__class__") "__get__" = some (some (.builtin "getset_descriptor.__get__"))
  tk : PySem.W.takesIn K (.builtin "object.__class__") = some true
  mo : PySem.W.mroIn K C (.type "object") = some true
theorem taker_none {K : PySem.W.Frag} {C : Addr} {f : Str} (h : findIn K (.ref C) f = some none) : PySem.W.takerIn K C f = some none := by
  unfold PySem.W.takerIn
  rw [h]
  rfl
section
variable {prog : Program} {w : World} {A : Around} {R : Result → Shared → Prop} {hp : Heap} {g : Array GenState} {d : Drawn} {t : Nat} {os : OsState} {K : PySem.W.Frag} {C x : Addr} {B : String} {bmB : List Value} {f : Str} {tk : Tok} {v : Value}
theorem set_first {t1 : Addr} (SF : StoreFacts B bmB "object.__setattr__" "object") (X : K.In hp) (hx : hp.get? x = some (PySem.W.excObj C t1 none .none)) (ho : excOver K C bmB = true) (hh : hasDictIn K C = true) (hf : findIn K (.ref C) f = some none)
    (hq : ∀ (h' : Heap) (tk' : Nat) (dx : Addr), (∀ b o, b ≠ x → hp.get? b = some o → h'.get? b = some o) → hp.objs.size ≤ dx → dx ≠ x → h'.get? x = some (PySem.W.excObj C t1 (some dx) .none) → h'.Ns1 dx (fun y => if y = f then some v else none) → R (.ok (.ret .none)) ⟨h', g, d, tk', os⟩) :
    codeAny (model prog w) A (.call (.builtin "object.__setattr__") ⟨[.ref x, .str f tk, v], []⟩) R ⟨hp, g, d, t, os⟩ := by
  refine PySem.W.osa_openX (od := none) SF X ⟨hx, rfl, rfl, trivial⟩ ho (taker_none hf) fun b => ?_
  obtain ⟨cd, hc, hd'⟩ := PySem.W.any_some hh
  have lx : x < hp.objs.size := Heap.lt_size hx
  have p1 : (hp.push (PySem.W.dictOf [] 0)).get? x = some (PySem.W.excObj C t1 none .none) := Heap.get?_push_of_some _ hx
  refine wpAny_bind (wpAny_pure (wpAny_bind (PySem.W.instanceDict_exc hx (PySem.W.looks_clsIn X hc) hd' ?_)))
  show wpAny _ _ (Builtin.ObjectAttr.storeInDict hp.objs.size (.str f tk) f v) _ _ _
  refine HandSPX.store_in_new ?_ fun h' tk' hn hs => ?_
  · refine ⟨PySem.W.dictOf [] 0, #[], 0, ?_, rfl, fun e he => absurd he (by simp), fun _ => rfl⟩
    rw [Heap.get?_update_ne _ _ _ _ (Nat.ne_of_gt lx).symm.symm]
    exact Heap.get?_push_at rfl rfl
  · refine hq h' tk' hp.objs.size (fun b o hb e => ?_) (Nat.le_refl _) (Nat.ne_of_gt lx) ?_ hn
    · refine (hs.2 b (Nat.ne_of_lt (Heap.lt_size e))).trans ?_
      rw [Heap.get?_update_ne _ _ _ _ hb]
      exact Heap.get?_push_of_some _ e
    · refine (hs.2 x (Nat.ne_of_lt lx)).trans ?_
      rw [Heap.get?_update_self _ p1 rfl]
theorem set_more {t1 dx : Addr} {m0 : Str → Option Value} {nl : List Str} (SF : StoreFacts B bmB "object.__setattr__" "object") (X : K.In hp) (hx : hp.get? x = some (PySem.W.excObj C t1 (some dx) .none)) (hn : hp.Ns1 dx m0) (hw : Within m0 nl) (hz : nl.length ≤ 1000)
    (ho : excOver K C bmB = true) (hh : hasDictIn K C = true) (hf : findIn K (.ref C) f = some none)
    (hq : ∀ (h' : Heap) (tk' : Nat), (∀ b o, b ≠ dx → hp.get? b = some o → h'.get? b = some o) → h'.Ns1 dx (fun y => if y = f then some v else m0 y) → R (.ok (.ret .none)) ⟨h', g, d, tk', os⟩) :
    codeAny (model prog w) A (.call (.builtin "object.__setattr__") ⟨[.ref x, .str f tk, v], []⟩) R ⟨hp, g, d, t, os⟩ := by
  obtain ⟨oD, _, _, e0, _⟩ := hn.count hw
  refine PySem.W.osa_openX (od := some oD) SF X ⟨hx, rfl, rfl, e0⟩ ho (taker_none hf) fun b => ?_
  obtain ⟨cd, hc, hd'⟩ := PySem.W.any_some hh
  refine wpAny_bind (wpAny_pure (wpAny_bind (wpAny_bind (wpAny_loadPart hx (wpAny_bind ((PySem.W.looks_clsIn X hc).here ?_))))))
  rw [hd']
  refine wpAny_pure (a := some dx) ?_
  exact OEX.store_in_old hn hw hz fun h' tk' hn' hs => hq h' tk' (fun b o hb e => (hs.2 b hb).trans e) hn'
end
end Xk
namespace Xk
open PySem HandSPX
/-! ### C(.., n=..): __new__ takes all, then the own __init__ -/
section
variable {prog : Program} {w : World} {A : Around} {E : Value → Shared → Prop} {R : Result → Shared → Prop} {h : Heap} {g : Array GenState} {d : Drawn} {t : Nat} {os : OsState} {nm q : Str} {C N : Addr} {bs bm bmB : List Value} {hb : Bool} {sn : List Str} {sub : List Value} {ab : Bool} {col : Option Bool} {dd : Option Addr} {k0 k1 k2 k3 k5 : Option Value} {B nI iI : String} {rest : List Value} {kw : List (Str × Value)}
theorem chk_kw {M : Model} {Q : Unit → Shared → Prop} (F : ExcBaseFacts B nI iI bmB) (hT : ∀ T : String, bm.contains (.type T) = bmB.contains (.type T)) (hC : h.get? C = some (excClassObj nm q C N bs bm hb sn sub ab col dd k0 k1 k2 k3 k5 nI)) (hq : Q () ⟨h, g, d, t, os⟩) :
    wpAny M A (checkBuiltinCall nI ⟨.ref C :: rest, kw⟩) Q E ⟨h, g, d, t, os⟩ := by
  have c1 : (Value.ref C :: bm).contains (.type B) = true := by
    rw [List.contains_cons, hT, F.hasB, Bool.or_true]
  have c2 := F.noStar
  simp only [checkBuiltinCall, F.newKind, F.newSplit, F.newRow]
  repeat (first
    | refine wpAny_loadPart_at hC ?_
    | (refine wpAny_isSubtype_exc hC ?_; rw [c1])
    | refine wpAny_staticBase_exc hC ?_
    | refine wpAny_madeBy_exc hC ?_
    | simp only [bne_self_eq_false, Bool.false_eq_true, if_false]
    | wp_step)
  exact hq
theorem new_kw (F : ExcBaseFacts B nI iI bmB) (hT : ∀ T : String, bm.contains (.type T) = bmB.contains (.type T)) (hC : h.get? C = some (excClassObj nm q C N bs bm hb sn sub ab col dd k0 k1 k2 k3 k5 nI)) (hz : rest.length ≤ sizeLine)
    (hq : R (.ok (.ret (.ref (h.objs.size + 1)))) ⟨(h.push (PySem.W.kdv_tup rest)).push (excO C h.objs.size), g, d, t, os⟩) : codeAny (model prog w) A (.builtin nI ⟨.ref C :: rest, kw⟩) R ⟨h, g, d, t, os⟩ := by
  have z0 := F.ends
  have c1 : (Value.ref C :: bm).contains (.type B) = true := by
    rw [List.contains_cons, hT, F.hasB, Bool.or_true]
  have c2 : (Value.ref C :: bm).contains (.type "AttributeError") = false := by
    rw [List.contains_cons, hT, F.noAttr]
    rfl
  have c3 : (Value.ref C :: bm).contains (.type "NameError") = false := by
    rw [List.contains_cons, hT, F.noName]
    rfl
  refine codeAny_builtinAt F.entry ?_
  unfold Builtin.«BaseException.__new__»
  refine wpAt_bind ?_
  show wpAt _ _ _ (stack >>= _) _ _ _
  refine wpAt_bind (wpAt_stack fun p below => wpAt_of_wpAny ?_)
  wp_walk
  refine wpAt_of_wpAny ?_
  rw [F.owner]
  repeat (first
    | with_reducible refine wpAny_madeHere_exc F.canon hC ?_
    | with_reducible refine wpAny_loadPart_at hC ?_
    | (with_reducible refine wpAny_isSubtype_exc hC ?_; first | rw [c1] | rw [c2] | rw [c3])
    | wp_step)
  show R _ _
  rw [Heap.size_push]
  exact hq
theorem tcall_kw {fI : Addr} {Q : Fin → Shared → Prop} (F : ExcBaseFacts B nI iI bmB) (hT : ∀ T : String, bm.contains (.type T) = bmB.contains (.type T)) (hC : h.get? C = some (excClassObj nm q C N bs bm hb sn sub ab col dd k0 k1 k2 k3 k5 nI)) (hz : rest.length ≤ sizeLine)
    (hi : PySem.W.Looks (model prog w) h (typeLookup (.ref C) "__init__") (some (.ref fI))) (hs : ∀ self, PySem.W.Looks (model prog w) h (bindSpecial (.ref fI) self) (.ref fI, [self]))
    (hq : codeAny (model prog w) A (.call (.ref fI) ⟨.ref (h.objs.size + 1) :: rest, kw⟩) (fun r s' => match r with | .ok (.ret v) => v = .none ∧ Q (.done (.ret (.ref (h.objs.size + 1)))) s' | .ok _ => False | .error e => E e s')
      ⟨(h.push (PySem.W.kdv_tup rest)).push (excO C h.objs.size), g, d, t, os⟩) : wpAny (model prog w) A (Builtin.«type.__call__» ⟨.ref C :: rest, kw⟩) Q E ⟨h, g, d, t, os⟩ := by
  repeat (first
    | with_reducible refine wpAny_loadPart_at hC ?_
    | with_reducible refine wpAny_madeBy_exc hC ?_
    | wp_step)
  refine codeAny_call_builtin_code (Code.quiet_builtin _ F.quiet) (chk_kw F hT hC (new_kw F hT hC hz ?_))
  show wpAny _ _ _ _ _ _
  have kk : ∀ b o, h.get? b = some o → ((h.push (PySem.W.kdv_tup rest)).push (excO C h.objs.size)).get? b = some o := fun b o e => Heap.get?_push_of_some _ (Heap.get?_push_of_some _ e)
  have hC1 := kk _ _ hC
  have ho : ((h.push (PySem.W.kdv_tup rest)).push (excO C h.objs.size)).get? (h.objs.size + 1) = some (excO C h.objs.size) := by heap_get
  have cc : (Value.ref C :: bm).contains (.ref C) = true := by simp
  have i1 := hi.keeps kk
  have b1 := (hs (.ref (h.objs.size + 1))).keeps kk
  unfold isInstance
  repeat (first
    | with_reducible refine wpAny_loadPart_at ho ?_
    | (with_reducible refine wpAny_isSubtype_exc hC1 ?_; rw [cc])
    | wp_step)
  show wpAny _ _ (typeLookup (.ref C) _) _ _ _
  refine i1.at (wpAny_holding (wpAny_bind (b1.at (wpAny_bind (wpAny_call (codeAny_mono hq fun r s' z => ?_))))))
  cases r with
  | error e => exact z
  | ok fl =>
    cases fl with
    | ret v =>
      obtain ⟨rfl, z⟩ := z
      first
        | exact wpAny_pure (wpAny_pure z)
        | (wp_walk; exact z)
    | next => exact z.elim
    | brk => exact z.elim
    | cont => exact z.elim
theorem chkT_kw {M : Model} {Q : Unit → Shared → Prop} (hC : h.get? C = some (excClassObj nm q C N bs bm hb sn sub ab col dd k0 k1 k2 k3 k5 nI)) (hq : Q () ⟨h, g, d, t, os⟩) : wpAny M A (checkBuiltinCall "type.__call__" ⟨.ref C :: rest, kw⟩) Q E ⟨h, g, d, t, os⟩ := by
  have f3 := tc_sub
  have hy : (⟨h, g, d, t, os⟩ : Shared).TypeIs (.ref C) "type" := ⟨_, hC, rfl⟩
  simp only [checkBuiltinCall, tc_kind, tc_split]
  repeat (any_goals (first
    | assumption
    | with_reducible refine wpAny_loadPart_at hC ?_
    | with_reducible refine wpAny_onRaise ?_
    | with_reducible refine wpAny_map ?_
    | wp_step))
theorem call_kw {fI : Addr} (F : ExcBaseFacts B nI iI bmB) (hT : ∀ T : String, bm.contains (.type T) = bmB.contains (.type T)) (hC : h.get? C = some (excClassObj nm q C N bs bm hb sn sub ab col dd k0 k1 k2 k3 k5 nI)) (hz : rest.length ≤ sizeLine)
    (hi : PySem.W.Looks (model prog w) h (typeLookup (.ref C) "__init__") (some (.ref fI))) (hs : ∀ self, PySem.W.Looks (model prog w) h (bindSpecial (.ref fI) self) (.ref fI, [self]))
    (hq : codeAny (model prog w) (A.under (.builtin "type.__call__" ⟨.ref C :: rest, kw⟩)) (.call (.ref fI) ⟨.ref (h.objs.size + 1) :: rest, kw⟩) (PySem.W.InitBack (h.objs.size + 1) R) ⟨(h.push (PySem.W.kdv_tup rest)).push (excO C h.objs.size), g, d, t, os⟩) :
    codeAny (model prog w) A (.call (.ref C) ⟨rest, kw⟩) R ⟨h, g, d, t, os⟩ := by
  have f1 := tc_lookup
  have f2 := tc_bind (.ref C)
  have hy : (⟨h, g, d, t, os⟩ : Shared).TypeIs (.ref C) "type" := ⟨_, hC, rfl⟩
  refine codeAny_of_tree ?_
  show wpAny _ _ (callAny (.ref C) _) _ _ _
  repeat (any_goals (first
    | assumption
    | with_reducible refine wpAny_loadPart_at hC ?_
    | wp_step))
  refine ⟨rfl, ?_⟩
  refine codeAny_call_builtin_at (Code.quiet_builtin _ (by decide +kernel)) entry_typeCall (chkT_kw hC (tcall_kw F hT hC hz hi hs ?_))
  refine codeAny_mono hq fun r s' z => ?_
  rcases r with e | (v | _ | _ | _) <;> exact z
end
end Xk
namespace Xk
open PySem PySem.Spec PyProof.Rows L2
open PySem.W (excOver excInitIn hasDictIn findIn)
/-- an error of the class C stands at a, its dict at dx -/
def Er (H : Hp) (a C dx : Addr) (fs : List (Str × V)) : Prop := H a = some (exo a C (some dx)) ∧ H dx = some (exd dx fs)
section
variable {X : Cx} {pins : List (Addr × Obj)} {σ : L2.St} {H : Hp} {s : Shared} {a C dx : Addr} {f : Str} {y : V} {u : Value} {fs : List (Str × V)}
theorem st_first {Q : Unit → Shared → Prop} {E : Value → Shared → Prop} {A : Around} (T : Exk X.K C) (I : Inv X pins σ H s) (e : H a = some (exo a C none)) (hno : findIn X.K (.ref C) f = some none) (ry : RelV y u)
    (h : ∀ (d : Addr) (s' : Shared), H d = none → d ≠ a → Inv X pins σ (upd (upd H d (exd d [(f, y)])) a (exo a C (some d))) s' → Q () s') : wpAny (model X.prog X.w) A (setAttr (.ref a) f u) Q E s := by
  obtain ⟨B, nI, iI, bmB, _, SF, _, ov⟩ := T.base
  obtain ⟨t1, ho⟩ := exo_at I.hok e
  obtain ⟨hp, g, d, t, os⟩ := s
  refine PySem.W.set_plain (od := none) I.kIn ⟨ho, rfl, rfl, trivial⟩ T.sa (set_first SF I.kIn ho ov T.hd hno fun h' tk' dx kk hs ne hx hn => ?_)
  have hnd : H dx = none := I.hok.fresh hs
  have hm1 : ∀ b, b ≠ a → (h'.update a fun _ => PySem.W.excObj C t1 none .none).get? b = h'.get? b := fun b hb => Heap.get?_update_ne _ _ _ _ hb
  have hm2 : (h'.update a fun _ => PySem.W.excObj C t1 none .none).get? a = some (PySem.W.excObj C t1 none .none) := Heap.get?_update_self _ hx rfl
  generalize h'.update a (fun _ => PySem.W.excObj C t1 none .none) = hm at hm1 hm2
  have J1 := I.laid (t' := tk') (h' := hm) (a := dx) (o := exd dx [(f, y)]) (fun b o q => by
    by_cases hb : b = a
    · subst hb
      have z : hp.get? b = some o := q
      rw [ho] at z
      cases z
      exact hm2
    · rw [hm1 b hb]
      exact kk b o hb q) hs (exd_ok (hn.at fun o q => (hm1 dx ne).trans q) (relO_put (fs := []) ry fun _ => True.intro))
  have ea : (upd H dx (exd dx [(f, y)])) a = some (exo a C none) := by
    rw [upd_ne ne.symm]
    exact e
  have J2 := J1.write (t' := tk') (h' := h') (x := a) (e := a) (o := exo a C (some dx)) (by rw [ea]; exact True.intro) (.inl rfl) (fun b o hb q => (hm1 b hb).symm.trans q) ⟨_, hx⟩ (exo_ok hx)
  exact h dx _ hnd ne J2
theorem st_more {Q : Unit → Shared → Prop} {E : Value → Shared → Prop} {A : Around} (T : Exk X.K C) (I : Inv X pins σ H s) (e : Er H a C dx fs) (hl : fs.length ≤ 900) (hno : findIn X.K (.ref C) f = some none) (ry : RelV y u)
    (h : ∀ s' : Shared, Inv X pins σ (upd H dx (exd dx ((f, y) :: fs))) s' → Q () s') : wpAny (model X.prog X.w) A (setAttr (.ref a) f u) Q E s := by
  obtain ⟨B, nI, iI, bmB, _, SF, _, ov⟩ := T.base
  obtain ⟨t1, ho⟩ := exo_at I.hok e.1
  obtain ⟨mA, hns, rel⟩ := exd_at I.hok e.2
  have hw := within_of rel
  obtain ⟨hp, g, d, t, os⟩ := s
  obtain ⟨oD, _, _, hoD, _⟩ := hns.count hw
  refine PySem.W.set_plain (od := some oD) I.kIn ⟨ho, rfl, rfl, hoD⟩ T.sa (set_more SF I.kIn ho hns hw (by rw [List.length_map]; omega) ov T.hd hno fun h' tk' kk hn => ?_)
  obtain ⟨o, es, ep, e', r'⟩ := id hn
  exact h _ (I.write (t' := tk') (x := dx) (e := dx) (o := exd dx ((f, y) :: fs)) (by rw [e.2]; exact True.intro) (.inl rfl) kk ⟨o, e'⟩ (exd_ok hn (relO_put ry rel)))
end
/-! ### self.f = e in such a class's __init__ -/
def tStX (K : PySem.W.Frag) (f : Str) (to te : TE) : TS := fun D σ H => te σ H fun y G => to σ G fun x J => ∃ a C, x = .ref a ∧ Exk K C ∧ findIn K (.ref C) f = some none ∧
  ((J a = some (exo a C none) ∧ ∀ d, J d = none → d ≠ a → D.nx σ (upd (upd J d (exd d [(f, y)])) a (exo a C (some d)))) ∨
   (∃ d fs, Er J a C d fs ∧ fs.length ≤ 900 ∧ D.nx σ (upd J d (exd d ((f, y) :: fs)))))
theorem ps_stX {X : Cx} {o e : Expr} {to te : TE} {f : Str} {p' pos : Pos} (ho : PE X o to) (he : PE X e te) (hs : swapsWith e (some (.Attribute o f p')) pos.line X.env = pure false := by rfl) : PS X (.Assign [.Attribute o f p'] e pos) (tStX X.K f to te) := by
  refine ⟨fun pins s σ H D I h => plainObj_wpAny_Assign_Attribute (thn (he.run pins s σ H _ I h) fun v s1 ⟨y, G, I1, r1, q1⟩ => thn (ho.run pins s1 σ G _ I1 q1) fun z s2 ⟨x, J, I2, r2, a, C, ex, T, hno, q⟩ => ?_) hs⟩
  subst ex
  obtain rfl : z = Value.ref a := r2
  rcases q with ⟨ea, q⟩ | ⟨d, fs, er, hl, q⟩
  · exact st_first T I2 ea hno r1 fun d s' n ne K' => ⟨σ, _, K', q d n ne⟩
  · exact st_more T I2 er hl hno r1 fun s' K' => ⟨σ, _, K', q⟩
/-! ### C(e), C(), C(n=e) as values -/
structure Xmk (K : PySem.W.Frag) (C fI : Addr) : Prop where
  x : Exk K C
  init : findIn K (.ref C) "__init__" = some (some (.ref fI))
  fn : PySem.W.isFn K (.ref fI) = true
def tMkX (C : Addr) (sp : Sp) (ta : TA) : TE := fun σ H Q => ta σ H fun vs G => vs.length ≤ 1000 ∧ ∀ a, G a = none → sp (.ref a :: vs) (upd G a (exo a C none)) (fun v J => v = .non ∧ Q (.ref a) J) E0
def tMkXk (C : Addr) (sp : Sp) (te : TE) : TE := fun σ H Q => tCons te tNil σ H fun vs G => ∃ z, vs = [z] ∧ ∀ a, G a = none → sp [.ref a, z] (upd G a (exo a C none)) (fun v J => v = .non ∧ Q (.ref a) J) E0
section
variable {X : Cx} {k : Nat} {C fI : Addr} {fd : FuncData} {ps : List Str} {sp : Sp} {x n : Str} {p pos kpos : Pos} {e : Expr} {es : List Expr} {t : TA} {te : TE}
theorem run_mkX {pins : List (Addr × Obj)} {σ : L2.St} {H : Hp} {s : Shared} {Q : VK} {us ws : List Value} {kw : List (Str × Value)} {vs : List V} (M : Xmk X.K C fI) (F : FnOk X.prog X.w X.K X.mg X.base CX0 k fI fd ps sp) (hr : Room (k + 1) X.A) (I : Inv X pins σ H s)
    (hb : ∀ (s : Shared) (v : Value), X.K.In s.heap → BindsTo s fd ⟨v :: us, kw⟩ (ps.zip (v :: ws))) (r : Vals vs ws) (hz : us.length ≤ sizeLine)
    (h : ∀ a, H a = none → sp (.ref a :: vs) (upd H a (exo a C none)) (fun v J => v = .non ∧ Q (.ref a) J) E0) : wpAny (model X.prog X.w) X.A (call (.ref C) us kw) (EP X pins σ Q) X.xe s := by
  obtain ⟨B, nI, iI, bmB, FB, SF, ii, ov⟩ := M.x.base
  obtain ⟨nm, N, qn, bs, bm, hdct, sn, sub, ab, col, dd, k0, k1, k2, k3, k5, hC, hT⟩ := PySem.W.excInit_of I.kIn ii
  obtain ⟨hp, g, dr, tk, os⟩ := s
  have hsz : hp.objs.size ≤ hp.objs.size + 1 := Nat.le_succ _
  have hq := h (hp.objs.size + 1) (I.hok.fresh hsz)
  have kk : ∀ b o, hp.get? b = some o → ((hp.push (PySem.W.kdv_tup us)).push (HandSPX.excO C hp.objs.size)).get? b = some o := fun b o z => Heap.get?_push_of_some _ (Heap.get?_push_of_some _ z)
  have hg : ((hp.push (PySem.W.kdv_tup us)).push (HandSPX.excO C hp.objs.size)).get? (hp.objs.size + 1) = some (HandSPX.excO C hp.objs.size) := by heap_get
  have J := I.laid (t' := tk) (a := hp.objs.size + 1) (o := exo (hp.objs.size + 1) C none) kk hsz (exo_ok hg)
  have r2 : Vals (V.ref (hp.objs.size + 1) :: vs) (Value.ref (hp.objs.size + 1) :: ws) := .cons rfl r
  refine wpAny_call (call_kw FB hT hC hz (PySem.W.looks_findIn I.kIn M.init) (fun self => PySem.W.bind_fn I.kIn self (beq_iff_eq.mp M.fn)) (codeAny_mono (F.run _ X.stack _ _ ⟨Value.ref (hp.objs.size + 1) :: us, kw⟩ _ _ _ E0 (hr.make C us kw) (J.env0.make C us kw) (hb _ _ J.kIn) r2 hq) fun r s' hq' => ?_))
  cases r with
  | error er => exact (pass0 pins σ _ _ er s' J hq')
  | ok fl =>
    cases fl with
    | ret z =>
      obtain ⟨v, H', I3, rv, ev, q3⟩ := J.after hq'
      subst ev
      exact ⟨rv, V.ref (hp.objs.size + 1), H', I3, rfl, q3⟩
    | next => exact False.elim hq'
    | brk => exact False.elim hq'
    | cont => exact False.elim hq'
theorem pe_mkX (M : Xmk X.K C fI) (F : FnOk X.prog X.w X.K X.mg X.base CX0 k fI fd ps sp) (hr : Room (k + 1) X.A) (hg : Gl X x) (hm : X.mg x = some (.ref C)) (hb : Binds X.K fd ps []) (ha : PA X (e :: es) t)
    (hdb : (x == ("__debug__" : Str)) = false := by decide) (he : starEach (e :: es) X.env = (false, eval e X.env) :: starEach es X.env := by rfl) (hpl : (backTo pos (starEach es X.env)).any (·.1) = false := by rfl) :
    PE X (.Call (.Name x p) (e :: es) [] pos) (tMkX C sp t) := by
  refine ⟨fun pins s σ H Q I h => wpAny_Call_Name_kw (ld_glob I hg hm ?_ hdb)⟩
  refine PySem.W.callWith_K (h₀ := X.base) I.ok.mod.kin M.x.kC (thn (ha.run pos pins s σ H _ I h) fun us s1 ⟨vs, G, I1, r1, hz, q1⟩ => ⟨I1.kIn, ?_⟩) he hpl
  have hu : us.length ≤ sizeLine := by
    rw [← r1.length]
    exact Nat.le_of_lt (small1000 hz)
  have hq := q1 _ (I1.hok.fresh (Nat.le_refl _))
  refine run_mkX (ws := us) M F hr I1 (fun s v X' => ?_) r1 hu q1
  have z := hb s (v :: us) X' (by
    have z1 := F.len _ _ _ _ hq
    simp only [List.length_cons, List.append_nil] at z1 ⊢
    rw [← r1.length]
    exact z1)
  rw [List.append_nil] at z
  exact z
theorem pe_mkX0 (M : Xmk X.K C fI) (F : FnOk X.prog X.w X.K X.mg X.base CX0 k fI fd ps sp) (hr : Room (k + 1) X.A) (hg : Gl X x) (hm : X.mg x = some (.ref C)) (hb : ∀ (s : Shared) (v : Value), X.K.In s.heap → BindsTo s fd ⟨[v], []⟩ (ps.zip [v]))
    (hdb : (x == ("__debug__" : Str)) = false := by decide) : PE X (.Call (.Name x p) [] [] pos) (tMkX C sp tNil) := by
  refine ⟨fun pins s σ H Q I h => wpAny_Call_Name_kw (ld_glob I hg hm ?_ hdb)⟩
  exact PySem.W.callWith_K0 I.kIn M.x.kC (run_mkX (us := []) (ws := []) (vs := []) M F hr I hb .nil (Nat.zero_le _) h.2)
theorem pe_mkXk (M : Xmk X.K C fI) (F : FnOk X.prog X.w X.K X.mg X.base CX0 k fI fd ps sp) (hr : Room (k + 1) X.A) (hg : Gl X x) (hm : X.mg x = some (.ref C)) (hb : ∀ (s : Shared) (v z : Value), X.K.In s.heap → BindsTo s fd ⟨[v], [(n, z)]⟩ (ps.zip [v, z])) (he : PE X e te)
    (hdb : (x == ("__debug__" : Str)) = false := by decide) (hall : (backToKw pos (keywordEach [⟨some n, e, kpos⟩] X.env)).all (·.1.isSome) = true := by rfl) (hks : (backToKw pos (keywordEach [⟨some n, e, kpos⟩] X.env)).filterMap (·.1) = [n] := by rfl)
    (hpl : ((backTo pos (starEach [] X.env)).any (·.1) || (backToKw pos (keywordEach [⟨some n, e, kpos⟩] X.env)).any (·.1.isNone)) = false := by rfl) : PE X (.Call (.Name x p) [] [⟨some n, e, kpos⟩] pos) (tMkXk C sp te) := by
  refine ⟨fun pins s σ H Q I h => wpAny_Call_Name_kw (ld_glob I hg hm ?_ hdb)⟩
  refine PySem.W.callWith_KW0 (h₀ := X.base) I.ok.mod.kin M.x.kC hall (thn ((pk_cons he pk_nil).run pos pins s σ H _ I h) fun ws s1 ⟨zs, G, I1, r1, y, ey, q1⟩ => ⟨I1.kIn, ?_⟩) hpl
  rw [hks]
  subst ey
  obtain ⟨z, rfl, rz⟩ := vals1 r1
  exact run_mkX (us := []) (ws := [z]) M F hr I1 (fun s v X' => hb s v z X') r1 (Nat.zero_le _) q1
end
/-! ### e.f -/
def tGetX (K : PySem.W.Frag) (f : Str) (te : TE) : TE := fun σ H Q => te σ H fun x G => ∃ a C d fs v, x = .ref a ∧ Exk K C ∧ findIn K (.ref C) f = some none ∧ Er G a C d fs ∧ fs.lookup f = some v ∧ Q v G
theorem inst_of {X : Cx} {pins : List (Addr × Obj)} {σ : L2.St} {H : Hp} {s : Shared} {a C d : Addr} {fs : List (Str × V)} (I : Inv X pins σ H s) (e : Er H a C d fs) :
    ∃ (ox od : Obj) (mA : Str → Option Value), PySem.W.InstAt s.heap a ox C (some od) ∧ (∀ n, PySem.W.lookIn n od = some (mA n)) ∧ ∀ n, RelO (fs.lookup n) (mA n) := by
  obtain ⟨t1, ho⟩ := exo_at I.hok e.1
  obtain ⟨mA, hns, rel⟩ := exd_at I.hok e.2
  obtain ⟨od, hd, hl⟩ := lookIn_ns hns
  exact ⟨_, od, mA, ⟨ho, rfl, rfl, hd⟩, hl, rel⟩
theorem pe_getX {X : Cx} {e : Expr} {te : TE} {pos : Pos} {f : Str} (he : PE X e te) (hb : attributeBase e f X.env (eval e X.env) = eval e X.env := by rfl) : PE X (.Attribute e f pos) (tGetX X.K f te) := by
  refine ⟨fun pins s σ H Q I h => attr_of hb (thn (he.run pins s σ H _ I h) fun u s1 ⟨x, G, I1, rx, a, C, d, fs, v, ex, T, hno, er, l, q⟩ => ?_)⟩
  subst ex
  obtain rfl : u = Value.ref a := rx
  obtain ⟨ox, od, mA, J, hl, rel⟩ := inst_of I1 er
  obtain ⟨z, hz, rz⟩ := RelO.some_of (v := v) (o := mA f) (by rw [← l]; exact rel f)
  exact HandSPX.exc_get I1.kIn J T.ga T.gg T.ex (PySem.W.findObj_own T.hd hno rfl (by rw [hl, hz])) (handed_of rz) ⟨v, G, I1.tok _, rz, q⟩
/-! ### isinstance(e, ..) -/
theorem kit_er {X : Cx} {pins : List (Addr × Obj)} {σ : L2.St} {H : Hp} {s : Shared} {a C d : Addr} {fs : List (Str × V)} (T : Exk X.K C) (I : Inv X pins σ H s) (e : Er H a C d fs) : ∃ P : Heap → Prop, PySem.W.KitX X.K (.ref a) (.ref C) P ∧ P s.heap := by
  obtain ⟨ox, od, mA, J, _, _⟩ := inst_of I e
  exact ⟨_, PySem.W.kitx_exc (by obtain ⟨cd, hc, _⟩ := PySem.W.any_some T.hd; rw [hc]; rfl) T.ga T.gg T.ex T.cl T.dg T.tk T.mo, J⟩
def rIsX (K : PySem.W.Frag) : List V → Hp → VK → Prop := fun xs H Q => ∃ a C d fs c u b, xs = [.ref a, c] ∧ ClsV c u ∧ Exk K C ∧ Er H a C d fs ∧ PySem.W.kitOne K (.ref C) u = some b ∧ Q (.bl b) H
theorem call_isX {X : Cx} : CallR X (.builtin "isinstance") (rIsX X.K) := by
  rintro pins s σ H xs us Q I r ⟨a, C, d, fs, c, u, b, rfl, k, T, e, z, q⟩
  obtain ⟨u1, u2, rfl, r1, r2⟩ := vals2 r
  cases (show u1 = Value.ref a from r1)
  have e2 := k.eq r2
  subst e2
  obtain ⟨P, Z, p⟩ := kit_er T I e
  exact PySem.W.kia_one Z I.kIn p z (fun w => nomatch w) fun tk => ⟨.bl b, H, I.tok tk, rfl, q⟩
def rIsXt (K : PySem.W.Frag) : List V → Hp → VK → Prop := fun xs H Q => ∃ a C d fs tp cs ws b, xs = [.ref a, .ref tp] ∧ H tp = some (.tup cs) ∧ Paired ClsV cs ws ∧ Exk K C ∧ Er H a C d fs ∧ PySem.W.kitAny K (.ref C) ws = some b ∧ Q (.bl b) H
theorem call_isXt {X : Cx} : CallR X (.builtin "isinstance") (rIsXt X.K) := by
  rintro pins s σ H xs us Q I r ⟨a, C, d, fs, tp, cs, ws, b, rfl, hT, k, T, e, z, q⟩
  obtain ⟨u1, u2, rfl, r1, r2⟩ := vals2 r
  cases (show u1 = Value.ref a from r1)
  cases (show u2 = Value.ref tp from r2)
  obtain ⟨P, Z, p⟩ := kit_er T I e
  obtain ⟨_, its, rv, ob, h1, h2, n, h3⟩ := (show ObjOk X.prog X.w H s.heap tp (.tup cs) from I.hok tp _ hT)
  have e3 := ClsV.all k rv
  subst e3
  obtain ⟨oc, od, dt, sl⟩ := ob
  simp only at h2 h3
  subst h2 h3
  exact PySem.W.kia_tup Z I.kIn p h1 z (fun w => nomatch w) fun tk => ⟨.bl b, H, I.tok tk, rfl, q⟩
end Xk
namespace Wb
open PySem PySem.Spec PyProof.Rows L2 RZ Xk
abbrev sCopied : Stmt := topS 1
def spI1 (C : Addr) (f w : Str) : Sp := fun vs H Q _ => ∃ a v, vs = [.ref a, v] ∧ H a = some (exo a C none) ∧ ∀ d H', H d = none → d ≠ a → Er H' a C d [("word", .str w), (f, v)] → (∀ c o, c ≠ a → H c = some o → H' c = some o) → Q .non H'
def spI0 (C : Addr) (w : Str) : Sp := fun vs H Q _ => ∃ a, vs = [.ref a] ∧ H a = some (exo a C none) ∧ ∀ d H', H d = none → d ≠ a → Er H' a C d [("word", .str w)] → (∀ c o, c ≠ a → H c = some o → H' c = some o) → Q .non H'
theorem init_end1 {H : Hp} {a C d : Addr} {f w : Str} {v : V} {Q : VK} (K1 : ∀ d H', H d = none → d ≠ a → Er H' a C d [("word", .str w), (f, v)] → (∀ c o, c ≠ a → H c = some o → H' c = some o) → Q .non H') (nd : H d = none) (ne : d ≠ a) :
    Q .non (upd (upd (upd H d (exd d [(f, v)])) a (exo a C (some d))) d (exd d [("word", .str w), (f, v)])) := by
  refine K1 d _ nd ne ⟨by rw [upd_ne ne.symm]; exact upd_same, upd_same⟩ fun c o hc e => ?_
  rw [upd_ne (ne_of_none e nd), upd_ne hc, upd_ne (ne_of_none e nd)]
  exact e
theorem init_end0 {H : Hp} {a C d : Addr} {w : Str} {Q : VK} (K1 : ∀ d H', H d = none → d ≠ a → Er H' a C d [("word", .str w)] → (∀ c o, c ≠ a → H c = some o → H' c = some o) → Q .non H') (nd : H d = none) (ne : d ≠ a) :
    Q .non (upd (upd H d (exd d [("word", .str w)])) a (exo a C (some d))) := by
  refine K1 d _ nd ne ⟨upd_same, by rw [upd_ne ne]; exact upd_same⟩ fun c o hc e => ?_
  rw [upd_ne hc, upd_ne (ne_of_none e nd)]
  exact e
section
variable {P : Program} {w : World} {K : PySem.W.Frag} {mg : Str → Option Value} {base : Heap}
/-! ### a text copied is the text -/
def spCopied : Sp := fun vs H Q _ => ∃ z, vs = [.str z] ∧ Q (.str z) H
theorem scC : FnScope ["thing", "part", "key"] ["thing"] (defScope sCopied) := ⟨rfl, rfl, rfl, by decide +kernel, rfl, by decide +kernel, by decide +kernel⟩
theorem ok_copied {f : Addr} {fd : FuncData} (F : Fun K "copied" "copied" sCopied f fd) (M : SmT mg) (md : mg "dict" = none) : FnOk P w K mg base CX0 1 f fd ["thing"] spCopied := by
  refine F.ok scC (fun vs H Q E h => ?_) (fun cdv A outer s H vs Q E hr h => ?_)
  · obtain ⟨z, rfl, _⟩ := h
    rfl
  · obtain ⟨z, rfl, q⟩ := h
    refine ⟨_, pss_cons (ps_if (pt_val (pe_callB call_isi (by rfl) M.isi boot_isinstance (pa_cons (pv 0) (pa_cons (pe_bltn (v := .ty "list") (by rfl) M.lst (by decide +kernel) rfl) pa_nil)))) (pss_one ps_never) pss_nil) (pss_cons (ps_if (pt_val (pe_callB call_isi (by rfl) M.isi boot_isinstance (pa_cons (pv 0) (pa_cons (pe_bltn (v := .ty "tuple") (by rfl) M.tup (by decide +kernel) rfl) pa_nil)))) (pss_one ps_never) pss_nil)
      (pss_cons (ps_if (pt_val (pe_callB call_isi (by rfl) M.isi boot_isinstance (pa_cons (pv 0) (pa_cons (pe_bltn (v := .ty "dict") (by rfl) md (by decide +kernel) rfl) pa_nil)))) (pss_one ps_never) pss_nil) (pss_one (ps_ret (pv 0))))), ?_⟩
    refine ⟨_, rfl, _, _, _, _, _, rfl, .ty "list", .base (.str z), kit_ty (r := false) (by decide +kernel), _, rfl, iteF ?_⟩
    refine ⟨_, rfl, _, _, _, _, _, rfl, .ty "tuple", .base (.str z), kit_ty (r := false) (by decide +kernel), _, rfl, iteF ?_⟩
    refine ⟨_, rfl, _, _, _, _, _, rfl, .ty "dict", .base (.str z), kit_ty (r := false) (by decide +kernel), _, rfl, iteF ?_⟩
    exact ⟨_, rfl, q⟩
def spI1s (C : Addr) (f w : Str) : Sp := fun vs H Q E => ∃ z : Str, (∃ a, vs = [.ref a, .str z]) ∧ spI1 C f w vs H Q E
abbrev sI0 : Stmt := inClass (topS 4) 0
theorem scI0 : FnScope ["self", "number"] ["self", "number"] (defScope sI0) := ⟨rfl, rfl, rfl, by decide +kernel, rfl, by decide +kernel, by decide +kernel⟩
theorem ok_i0 {f C : Addr} {fd : FuncData} (F : Fun K "__init__" "BadSize.__init__" sI0 f fd) (T : Exk K C) (n1 : PySem.W.findIn K (.ref C) "number" = some none) (n2 : PySem.W.findIn K (.ref C) "word" = some none) : FnOk P w K mg base CX0 1 f fd ["self", "number"] (spI1 C "number" "BadSize") := by
  refine F.ok scI0 (fun vs H Q E h => ?_) (fun cdv A outer s H vs Q E hr h => ?_)
  · obtain ⟨a, v, rfl, _⟩ := h
    rfl
  · obtain ⟨a, v, rfl, ha, K1⟩ := h
    refine ⟨_, pss_cons (ps_stX (pv 0) (pv 1)) (pss_one (ps_stX (pv 0) pe_str)), _, rfl, _, rfl, a, C, rfl, T, n1, .inl ⟨ha, fun d nd ne => ?_⟩⟩
    exact ⟨_, rfl, a, C, rfl, T, n2, .inr ⟨d, _, ⟨upd_same, by rw [upd_ne ne]; exact upd_same⟩, by show 1 ≤ 900; decide, init_end1 K1 nd ne⟩⟩
abbrev sI1 : Stmt := inClass (topS 5) 0
theorem scI1 : FnScope ["self", "at"] ["self", "at"] (defScope sI1) := ⟨rfl, rfl, rfl, by decide +kernel, rfl, by decide +kernel, by decide +kernel⟩
theorem ok_i1 {f C : Addr} {fd : FuncData} (F : Fun K "__init__" "BadArrow.__init__" sI1 f fd) (T : Exk K C) (n1 : PySem.W.findIn K (.ref C) "at" = some none) (n2 : PySem.W.findIn K (.ref C) "word" = some none) : FnOk P w K mg base CX0 1 f fd ["self", "at"] (spI1 C "at" "BadArrow") := by
  refine F.ok scI1 (fun vs H Q E h => ?_) (fun cdv A outer s H vs Q E hr h => ?_)
  · obtain ⟨a, v, rfl, _⟩ := h
    rfl
  · obtain ⟨a, v, rfl, ha, K1⟩ := h
    refine ⟨_, pss_cons (ps_stX (pv 0) (pv 1)) (pss_one (ps_stX (pv 0) pe_str)), _, rfl, _, rfl, a, C, rfl, T, n1, .inl ⟨ha, fun d nd ne => ?_⟩⟩
    exact ⟨_, rfl, a, C, rfl, T, n2, .inr ⟨d, _, ⟨upd_same, by rw [upd_ne ne]; exact upd_same⟩, by show 1 ≤ 900; decide, init_end1 K1 nd ne⟩⟩
abbrev sI2 : Stmt := inClass (topS 6) 0
theorem scI2 : FnScope ["self", "at"] ["self", "at"] (defScope sI2) := ⟨rfl, rfl, rfl, by decide +kernel, rfl, by decide +kernel, by decide +kernel⟩
theorem ok_i2 {f C : Addr} {fd : FuncData} (F : Fun K "__init__" "BadMark.__init__" sI2 f fd) (T : Exk K C) (n1 : PySem.W.findIn K (.ref C) "at" = some none) (n2 : PySem.W.findIn K (.ref C) "word" = some none) : FnOk P w K mg base CX0 1 f fd ["self", "at"] (spI1 C "at" "BadMark") := by
  refine F.ok scI2 (fun vs H Q E h => ?_) (fun cdv A outer s H vs Q E hr h => ?_)
  · obtain ⟨a, v, rfl, _⟩ := h
    rfl
  · obtain ⟨a, v, rfl, ha, K1⟩ := h
    refine ⟨_, pss_cons (ps_stX (pv 0) (pv 1)) (pss_one (ps_stX (pv 0) pe_str)), _, rfl, _, rfl, a, C, rfl, T, n1, .inl ⟨ha, fun d nd ne => ?_⟩⟩
    exact ⟨_, rfl, a, C, rfl, T, n2, .inr ⟨d, _, ⟨upd_same, by rw [upd_ne ne]; exact upd_same⟩, by show 1 ≤ 900; decide, init_end1 K1 nd ne⟩⟩
abbrev sI3 : Stmt := inClass (topS 7) 0
theorem scI3 : FnScope ["self", "number"] ["self", "number"] (defScope sI3) := ⟨rfl, rfl, rfl, by decide +kernel, rfl, by decide +kernel, by decide +kernel⟩
theorem ok_i3 {f C : Addr} {fd : FuncData} (F : Fun K "__init__" "BadPoint.__init__" sI3 f fd) (T : Exk K C) (n1 : PySem.W.findIn K (.ref C) "number" = some none) (n2 : PySem.W.findIn K (.ref C) "word" = some none) : FnOk P w K mg base CX0 1 f fd ["self", "number"] (spI1 C "number" "BadPoint") := by
  refine F.ok scI3 (fun vs H Q E h => ?_) (fun cdv A outer s H vs Q E hr h => ?_)
  · obtain ⟨a, v, rfl, _⟩ := h
    rfl
  · obtain ⟨a, v, rfl, ha, K1⟩ := h
    refine ⟨_, pss_cons (ps_stX (pv 0) (pv 1)) (pss_one (ps_stX (pv 0) pe_str)), _, rfl, _, rfl, a, C, rfl, T, n1, .inl ⟨ha, fun d nd ne => ?_⟩⟩
    exact ⟨_, rfl, a, C, rfl, T, n2, .inr ⟨d, _, ⟨upd_same, by rw [upd_ne ne]; exact upd_same⟩, by show 1 ≤ 900; decide, init_end1 K1 nd ne⟩⟩
abbrev sI4 : Stmt := inClass (topS 8) 0
theorem scI4 : FnScope ["self", "tie"] ["self", "tie"] (defScope sI4) := ⟨rfl, rfl, rfl, by decide +kernel, rfl, by decide +kernel, by decide +kernel⟩
theorem ok_i4 {f C : Addr} {fd : FuncData} (F : Fun K "__init__" "BadTie.__init__" sI4 f fd) (T : Exk K C) (n1 : PySem.W.findIn K (.ref C) "tie" = some none) (n2 : PySem.W.findIn K (.ref C) "word" = some none) : FnOk P w K mg base CX0 1 f fd ["self", "tie"] (spI1 C "tie" "BadTie") := by
  refine F.ok scI4 (fun vs H Q E h => ?_) (fun cdv A outer s H vs Q E hr h => ?_)
  · obtain ⟨a, v, rfl, _⟩ := h
    rfl
  · obtain ⟨a, v, rfl, ha, K1⟩ := h
    refine ⟨_, pss_cons (ps_stX (pv 0) (pv 1)) (pss_one (ps_stX (pv 0) pe_str)), _, rfl, _, rfl, a, C, rfl, T, n1, .inl ⟨ha, fun d nd ne => ?_⟩⟩
    exact ⟨_, rfl, a, C, rfl, T, n2, .inr ⟨d, _, ⟨upd_same, by rw [upd_ne ne]; exact upd_same⟩, by show 1 ≤ 900; decide, init_end1 K1 nd ne⟩⟩
abbrev sI5 : Stmt := inClass (topS 9) 0
theorem scI5 : FnScope ["self", "at"] ["self", "at"] (defScope sI5) := ⟨rfl, rfl, rfl, by decide +kernel, rfl, by decide +kernel, by decide +kernel⟩
theorem ok_i5 {f C : Addr} {fd : FuncData} (F : Fun K "__init__" "BadText.__init__" sI5 f fd) (T : Exk K C) (n1 : PySem.W.findIn K (.ref C) "at" = some none) (n2 : PySem.W.findIn K (.ref C) "word" = some none) : FnOk P w K mg base CX0 1 f fd ["self", "at"] (spI1 C "at" "BadText") := by
  refine F.ok scI5 (fun vs H Q E h => ?_) (fun cdv A outer s H vs Q E hr h => ?_)
  · obtain ⟨a, v, rfl, _⟩ := h
    rfl
  · obtain ⟨a, v, rfl, ha, K1⟩ := h
    refine ⟨_, pss_cons (ps_stX (pv 0) (pv 1)) (pss_one (ps_stX (pv 0) pe_str)), _, rfl, _, rfl, a, C, rfl, T, n1, .inl ⟨ha, fun d nd ne => ?_⟩⟩
    exact ⟨_, rfl, a, C, rfl, T, n2, .inr ⟨d, _, ⟨upd_same, by rw [upd_ne ne]; exact upd_same⟩, by show 1 ≤ 900; decide, init_end1 K1 nd ne⟩⟩
abbrev sI6 : Stmt := inClass (topS 10) 0
theorem scI6 : FnScope ["self", "name"] ["self", "name"] (defScope sI6) := ⟨rfl, rfl, rfl, by decide +kernel, rfl, by decide +kernel, by decide +kernel⟩
theorem ok_i6 {f C : Addr} {fd : FuncData} (F : Fun K "__init__" "BadName.__init__" sI6 f fd) (T : Exk K C) (n1 : PySem.W.findIn K (.ref C) "name" = some none) (n2 : PySem.W.findIn K (.ref C) "word" = some none) : FnOk P w K mg base CX0 1 f fd ["self", "name"] (spI1 C "name" "BadName") := by
  refine F.ok scI6 (fun vs H Q E h => ?_) (fun cdv A outer s H vs Q E hr h => ?_)
  · obtain ⟨a, v, rfl, _⟩ := h
    rfl
  · obtain ⟨a, v, rfl, ha, K1⟩ := h
    refine ⟨_, pss_cons (ps_stX (pv 0) (pv 1)) (pss_one (ps_stX (pv 0) pe_str)), _, rfl, _, rfl, a, C, rfl, T, n1, .inl ⟨ha, fun d nd ne => ?_⟩⟩
    exact ⟨_, rfl, a, C, rfl, T, n2, .inr ⟨d, _, ⟨upd_same, by rw [upd_ne ne]; exact upd_same⟩, by show 1 ≤ 900; decide, init_end1 K1 nd ne⟩⟩
abbrev sI7 : Stmt := inClass (topS 11) 0
theorem scI7 : FnScope ["self", "number"] ["self", "number"] (defScope sI7) := ⟨rfl, rfl, rfl, by decide +kernel, rfl, by decide +kernel, by decide +kernel⟩
theorem ok_i7 {f C : Addr} {fd : FuncData} (F : Fun K "__init__" "BadNumber.__init__" sI7 f fd) (T : Exk K C) (n1 : PySem.W.findIn K (.ref C) "number" = some none) (n2 : PySem.W.findIn K (.ref C) "word" = some none) : FnOk P w K mg base CX0 1 f fd ["self", "number"] (spI1 C "number" "BadNumber") := by
  refine F.ok scI7 (fun vs H Q E h => ?_) (fun cdv A outer s H vs Q E hr h => ?_)
  · obtain ⟨a, v, rfl, _⟩ := h
    rfl
  · obtain ⟨a, v, rfl, ha, K1⟩ := h
    refine ⟨_, pss_cons (ps_stX (pv 0) (pv 1)) (pss_one (ps_stX (pv 0) pe_str)), _, rfl, _, rfl, a, C, rfl, T, n1, .inl ⟨ha, fun d nd ne => ?_⟩⟩
    exact ⟨_, rfl, a, C, rfl, T, n2, .inr ⟨d, _, ⟨upd_same, by rw [upd_ne ne]; exact upd_same⟩, by show 1 ≤ 900; decide, init_end1 K1 nd ne⟩⟩
abbrev sI8 : Stmt := inClass (topS 12) 0
theorem scI8 : FnScope ["self"] ["self"] (defScope sI8) := ⟨rfl, rfl, rfl, by decide +kernel, rfl, by decide +kernel, by decide +kernel⟩
theorem ok_i8 {f C : Addr} {fd : FuncData} (F : Fun K "__init__" "BadSaying.__init__" sI8 f fd) (T : Exk K C) (n2 : PySem.W.findIn K (.ref C) "word" = some none) : FnOk P w K mg base CX0 1 f fd ["self"] (spI0 C "BadSaying") := by
  refine F.ok scI8 (fun vs H Q E h => ?_) (fun cdv A outer s H vs Q E hr h => ?_)
  · obtain ⟨a, rfl, _⟩ := h
    rfl
  · obtain ⟨a, rfl, ha, K1⟩ := h
    exact ⟨_, pss_one (ps_stX (pv 0) pe_str), _, rfl, a, C, rfl, T, n2, .inl ⟨ha, fun d nd ne => init_end0 K1 nd ne⟩⟩
abbrev sI9 : Stmt := inClass (topS 13) 0
theorem scI9 : FnScope ["self", "at"] ["self", "at"] (defScope sI9) := ⟨rfl, rfl, rfl, by decide +kernel, rfl, by decide +kernel, by decide +kernel⟩
theorem ok_i9 {f C : Addr} {fd : FuncData} (F : Fun K "__init__" "BadStrike.__init__" sI9 f fd) (T : Exk K C) (n1 : PySem.W.findIn K (.ref C) "at" = some none) (n2 : PySem.W.findIn K (.ref C) "word" = some none) : FnOk P w K mg base CX0 1 f fd ["self", "at"] (spI1 C "at" "BadStrike") := by
  refine F.ok scI9 (fun vs H Q E h => ?_) (fun cdv A outer s H vs Q E hr h => ?_)
  · obtain ⟨a, v, rfl, _⟩ := h
    rfl
  · obtain ⟨a, v, rfl, ha, K1⟩ := h
    refine ⟨_, pss_cons (ps_stX (pv 0) (pv 1)) (pss_one (ps_stX (pv 0) pe_str)), _, rfl, _, rfl, a, C, rfl, T, n1, .inl ⟨ha, fun d nd ne => ?_⟩⟩
    exact ⟨_, rfl, a, C, rfl, T, n2, .inr ⟨d, _, ⟨upd_same, by rw [upd_ne ne]; exact upd_same⟩, by show 1 ≤ 900; decide, init_end1 K1 nd ne⟩⟩
abbrev sI10 : Stmt := inClass (topS 14) 0
theorem scI10 : FnScope ["self", "first"] ["self", "first"] (defScope sI10) := ⟨rfl, rfl, rfl, by decide +kernel, rfl, by decide +kernel, by decide +kernel⟩
abbrev sI11 : Stmt := inClass (topS 15) 0
theorem scI11 : FnScope ["self"] ["self"] (defScope sI11) := ⟨rfl, rfl, rfl, by decide +kernel, rfl, by decide +kernel, by decide +kernel⟩
theorem ok_i11 {f C : Addr} {fd : FuncData} (F : Fun K "__init__" "NotTree.__init__" sI11 f fd) (T : Exk K C) (n2 : PySem.W.findIn K (.ref C) "word" = some none) : FnOk P w K mg base CX0 1 f fd ["self"] (spI0 C "NotTree") := by
  refine F.ok scI11 (fun vs H Q E h => ?_) (fun cdv A outer s H vs Q E hr h => ?_)
  · obtain ⟨a, rfl, _⟩ := h
    rfl
  · obtain ⟨a, rfl, ha, K1⟩ := h
    exact ⟨_, pss_one (ps_stX (pv 0) pe_str), _, rfl, a, C, rfl, T, n2, .inl ⟨ha, fun d nd ne => init_end0 K1 nd ne⟩⟩
abbrev sI12 : Stmt := inClass (topS 16) 0
theorem scI12 : FnScope ["self"] ["self"] (defScope sI12) := ⟨rfl, rfl, rfl, by decide +kernel, rfl, by decide +kernel, by decide +kernel⟩
theorem ok_i12 {f C : Addr} {fd : FuncData} (F : Fun K "__init__" "NotTold.__init__" sI12 f fd) (T : Exk K C) (n2 : PySem.W.findIn K (.ref C) "word" = some none) : FnOk P w K mg base CX0 1 f fd ["self"] (spI0 C "NotTold") := by
  refine F.ok scI12 (fun vs H Q E h => ?_) (fun cdv A outer s H vs Q E hr h => ?_)
  · obtain ⟨a, rfl, _⟩ := h
    rfl
  · obtain ⟨a, rfl, ha, K1⟩ := h
    exact ⟨_, pss_one (ps_stX (pv 0) pe_str), _, rfl, a, C, rfl, T, n2, .inl ⟨ha, fun d nd ne => init_end0 K1 nd ne⟩⟩
abbrev sI13 : Stmt := inClass (topS 17) 0
theorem scI13 : FnScope ["self", "bound"] ["self", "bound"] (defScope sI13) := ⟨rfl, rfl, rfl, by decide +kernel, rfl, by decide +kernel, by decide +kernel⟩
theorem ok_i13 {f C : Addr} {fd : FuncData} (F : Fun K "__init__" "TooMany.__init__" sI13 f fd) (T : Exk K C) (n1 : PySem.W.findIn K (.ref C) "bound" = some none) (n2 : PySem.W.findIn K (.ref C) "word" = some none) : FnOk P w K mg base CX0 1 f fd ["self", "bound"] (spI1 C "bound" "TooMany") := by
  refine F.ok scI13 (fun vs H Q E h => ?_) (fun cdv A outer s H vs Q E hr h => ?_)
  · obtain ⟨a, v, rfl, _⟩ := h
    rfl
  · obtain ⟨a, v, rfl, ha, K1⟩ := h
    refine ⟨_, pss_cons (ps_stX (pv 0) (pv 1)) (pss_one (ps_stX (pv 0) pe_str)), _, rfl, _, rfl, a, C, rfl, T, n1, .inl ⟨ha, fun d nd ne => ?_⟩⟩
    exact ⟨_, rfl, a, C, rfl, T, n2, .inr ⟨d, _, ⟨upd_same, by rw [upd_ne ne]; exact upd_same⟩, by show 1 ≤ 900; decide, init_end1 K1 nd ne⟩⟩
abbrev sI14 : Stmt := inClass (topS 18) 0
theorem scI14 : FnScope ["self", "name"] ["self", "name"] (defScope sI14) := ⟨rfl, rfl, rfl, by decide +kernel, rfl, by decide +kernel, by decide +kernel⟩
theorem ok_i14 {f C : Addr} {fd : FuncData} (F : Fun K "__init__" "Taken.__init__" sI14 f fd) (T : Exk K C) (n1 : PySem.W.findIn K (.ref C) "name" = some none) (n2 : PySem.W.findIn K (.ref C) "word" = some none) : FnOk P w K mg base CX0 1 f fd ["self", "name"] (spI1 C "name" "Taken") := by
  refine F.ok scI14 (fun vs H Q E h => ?_) (fun cdv A outer s H vs Q E hr h => ?_)
  · obtain ⟨a, v, rfl, _⟩ := h
    rfl
  · obtain ⟨a, v, rfl, ha, K1⟩ := h
    refine ⟨_, pss_cons (ps_stX (pv 0) (pv 1)) (pss_one (ps_stX (pv 0) pe_str)), _, rfl, _, rfl, a, C, rfl, T, n1, .inl ⟨ha, fun d nd ne => ?_⟩⟩
    exact ⟨_, rfl, a, C, rfl, T, n2, .inr ⟨d, _, ⟨upd_same, by rw [upd_ne ne]; exact upd_same⟩, by show 1 ≤ 900; decide, init_end1 K1 nd ne⟩⟩
abbrev sI15 : Stmt := inClass (topS 19) 0
theorem scI15 : FnScope ["self", "bound"] ["self", "bound"] (defScope sI15) := ⟨rfl, rfl, rfl, by decide +kernel, rfl, by decide +kernel, by decide +kernel⟩
theorem ok_i15 {f C : Addr} {fd : FuncData} (F : Fun K "__init__" "Full.__init__" sI15 f fd) (T : Exk K C) (n1 : PySem.W.findIn K (.ref C) "bound" = some none) (n2 : PySem.W.findIn K (.ref C) "word" = some none) : FnOk P w K mg base CX0 1 f fd ["self", "bound"] (spI1 C "bound" "Full") := by
  refine F.ok scI15 (fun vs H Q E h => ?_) (fun cdv A outer s H vs Q E hr h => ?_)
  · obtain ⟨a, v, rfl, _⟩ := h
    rfl
  · obtain ⟨a, v, rfl, ha, K1⟩ := h
    refine ⟨_, pss_cons (ps_stX (pv 0) (pv 1)) (pss_one (ps_stX (pv 0) pe_str)), _, rfl, _, rfl, a, C, rfl, T, n1, .inl ⟨ha, fun d nd ne => ?_⟩⟩
    exact ⟨_, rfl, a, C, rfl, T, n2, .inr ⟨d, _, ⟨upd_same, by rw [upd_ne ne]; exact upd_same⟩, by show 1 ≤ 900; decide, init_end1 K1 nd ne⟩⟩
abbrev sI16 : Stmt := inClass (topS 20) 0
theorem scI16 : FnScope ["self", "name"] ["self", "name"] (defScope sI16) := ⟨rfl, rfl, rfl, by decide +kernel, rfl, by decide +kernel, by decide +kernel⟩
theorem ok_i16 {f C : Addr} {fd : FuncData} (F : Fun K "__init__" "InUse.__init__" sI16 f fd) (T : Exk K C) (n1 : PySem.W.findIn K (.ref C) "name" = some none) (n2 : PySem.W.findIn K (.ref C) "word" = some none) : FnOk P w K mg base CX0 1 f fd ["self", "name"] (spI1 C "name" "InUse") := by
  refine F.ok scI16 (fun vs H Q E h => ?_) (fun cdv A outer s H vs Q E hr h => ?_)
  · obtain ⟨a, v, rfl, _⟩ := h
    rfl
  · obtain ⟨a, v, rfl, ha, K1⟩ := h
    refine ⟨_, pss_cons (ps_stX (pv 0) (pv 1)) (pss_one (ps_stX (pv 0) pe_str)), _, rfl, _, rfl, a, C, rfl, T, n1, .inl ⟨ha, fun d nd ne => ?_⟩⟩
    exact ⟨_, rfl, a, C, rfl, T, n2, .inr ⟨d, _, ⟨upd_same, by rw [upd_ne ne]; exact upd_same⟩, by show 1 ≤ 900; decide, init_end1 K1 nd ne⟩⟩
abbrev sI17 : Stmt := inClass (topS 21) 0
theorem scI17 : FnScope ["self", "tie"] ["self", "tie"] (defScope sI17) := ⟨rfl, rfl, rfl, by decide +kernel, rfl, by decide +kernel, by decide +kernel⟩
theorem ok_i17 {f C : Addr} {fd : FuncData} (F : Fun K "__init__" "Same.__init__" sI17 f fd) (T : Exk K C) (n1 : PySem.W.findIn K (.ref C) "tie" = some none) (n2 : PySem.W.findIn K (.ref C) "word" = some none) : FnOk P w K mg base CX0 1 f fd ["self", "tie"] (spI1 C "tie" "Same") := by
  refine F.ok scI17 (fun vs H Q E h => ?_) (fun cdv A outer s H vs Q E hr h => ?_)
  · obtain ⟨a, v, rfl, _⟩ := h
    rfl
  · obtain ⟨a, v, rfl, ha, K1⟩ := h
    refine ⟨_, pss_cons (ps_stX (pv 0) (pv 1)) (pss_one (ps_stX (pv 0) pe_str)), _, rfl, _, rfl, a, C, rfl, T, n1, .inl ⟨ha, fun d nd ne => ?_⟩⟩
    exact ⟨_, rfl, a, C, rfl, T, n2, .inr ⟨d, _, ⟨upd_same, by rw [upd_ne ne]; exact upd_same⟩, by show 1 ≤ 900; decide, init_end1 K1 nd ne⟩⟩
abbrev sI18 : Stmt := inClass (topS 23) 0
theorem scI18 : FnScope ["self", "name"] ["self", "name"] (defScope sI18) := ⟨rfl, rfl, rfl, by decide +kernel, rfl, by decide +kernel, by decide +kernel⟩
theorem ok_i18 {f C : Addr} {fd : FuncData} (F : Fun K "__init__" "NoWeb.__init__" sI18 f fd) (T : Exk K C) (n1 : PySem.W.findIn K (.ref C) "name" = some none) (n2 : PySem.W.findIn K (.ref C) "word" = some none) : FnOk P w K mg base CX0 1 f fd ["self", "name"] (spI1 C "name" "NoWeb") := by
  refine F.ok scI18 (fun vs H Q E h => ?_) (fun cdv A outer s H vs Q E hr h => ?_)
  · obtain ⟨a, v, rfl, _⟩ := h
    rfl
  · obtain ⟨a, v, rfl, ha, K1⟩ := h
    refine ⟨_, pss_cons (ps_stX (pv 0) (pv 1)) (pss_one (ps_stX (pv 0) pe_str)), _, rfl, _, rfl, a, C, rfl, T, n1, .inl ⟨ha, fun d nd ne => ?_⟩⟩
    exact ⟨_, rfl, a, C, rfl, T, n2, .inr ⟨d, _, ⟨upd_same, by rw [upd_ne ne]; exact upd_same⟩, by show 1 ≤ 900; decide, init_end1 K1 nd ne⟩⟩
abbrev sI19 : Stmt := inClass (topS 24) 0
theorem scI19 : FnScope ["self", "name"] ["self", "name"] (defScope sI19) := ⟨rfl, rfl, rfl, by decide +kernel, rfl, by decide +kernel, by decide +kernel⟩
theorem ok_i19 {f C : Addr} {fd : FuncData} (F : Fun K "__init__" "NoTree.__init__" sI19 f fd) (T : Exk K C) (n1 : PySem.W.findIn K (.ref C) "name" = some none) (n2 : PySem.W.findIn K (.ref C) "word" = some none) : FnOk P w K mg base CX0 1 f fd ["self", "name"] (spI1 C "name" "NoTree") := by
  refine F.ok scI19 (fun vs H Q E h => ?_) (fun cdv A outer s H vs Q E hr h => ?_)
  · obtain ⟨a, v, rfl, _⟩ := h
    rfl
  · obtain ⟨a, v, rfl, ha, K1⟩ := h
    refine ⟨_, pss_cons (ps_stX (pv 0) (pv 1)) (pss_one (ps_stX (pv 0) pe_str)), _, rfl, _, rfl, a, C, rfl, T, n1, .inl ⟨ha, fun d nd ne => ?_⟩⟩
    exact ⟨_, rfl, a, C, rfl, T, n2, .inr ⟨d, _, ⟨upd_same, by rw [upd_ne ne]; exact upd_same⟩, by show 1 ≤ 900; decide, init_end1 K1 nd ne⟩⟩
abbrev sI20 : Stmt := inClass (topS 25) 0
theorem scI20 : FnScope ["self", "name"] ["self", "name"] (defScope sI20) := ⟨rfl, rfl, rfl, by decide +kernel, rfl, by decide +kernel, by decide +kernel⟩
theorem ok_i20 {f C : Addr} {fd : FuncData} (F : Fun K "__init__" "NoRule.__init__" sI20 f fd) (T : Exk K C) (n1 : PySem.W.findIn K (.ref C) "name" = some none) (n2 : PySem.W.findIn K (.ref C) "word" = some none) : FnOk P w K mg base CX0 1 f fd ["self", "name"] (spI1 C "name" "NoRule") := by
  refine F.ok scI20 (fun vs H Q E h => ?_) (fun cdv A outer s H vs Q E hr h => ?_)
  · obtain ⟨a, v, rfl, _⟩ := h
    rfl
  · obtain ⟨a, v, rfl, ha, K1⟩ := h
    refine ⟨_, pss_cons (ps_stX (pv 0) (pv 1)) (pss_one (ps_stX (pv 0) pe_str)), _, rfl, _, rfl, a, C, rfl, T, n1, .inl ⟨ha, fun d nd ne => ?_⟩⟩
    exact ⟨_, rfl, a, C, rfl, T, n2, .inr ⟨d, _, ⟨upd_same, by rw [upd_ne ne]; exact upd_same⟩, by show 1 ≤ 900; decide, init_end1 K1 nd ne⟩⟩
abbrev sI21 : Stmt := inClass (topS 26) 0
theorem scI21 : FnScope ["self", "name"] ["self", "name"] (defScope sI21) := ⟨rfl, rfl, rfl, by decide +kernel, rfl, by decide +kernel, by decide +kernel⟩
theorem ok_i21 {f C : Addr} {fd : FuncData} (F : Fun K "__init__" "NoThing.__init__" sI21 f fd) (T : Exk K C) (n1 : PySem.W.findIn K (.ref C) "name" = some none) (n2 : PySem.W.findIn K (.ref C) "word" = some none) : FnOk P w K mg base CX0 1 f fd ["self", "name"] (spI1 C "name" "NoThing") := by
  refine F.ok scI21 (fun vs H Q E h => ?_) (fun cdv A outer s H vs Q E hr h => ?_)
  · obtain ⟨a, v, rfl, _⟩ := h
    rfl
  · obtain ⟨a, v, rfl, ha, K1⟩ := h
    refine ⟨_, pss_cons (ps_stX (pv 0) (pv 1)) (pss_one (ps_stX (pv 0) pe_str)), _, rfl, _, rfl, a, C, rfl, T, n1, .inl ⟨ha, fun d nd ne => ?_⟩⟩
    exact ⟨_, rfl, a, C, rfl, T, n2, .inr ⟨d, _, ⟨upd_same, by rw [upd_ne ne]; exact upd_same⟩, by show 1 ≤ 900; decide, init_end1 K1 nd ne⟩⟩
abbrev sI22 : Stmt := inClass (topS 27) 0
theorem scI22 : FnScope ["self", "tie"] ["self", "tie"] (defScope sI22) := ⟨rfl, rfl, rfl, by decide +kernel, rfl, by decide +kernel, by decide +kernel⟩
theorem ok_i22 {f C : Addr} {fd : FuncData} (F : Fun K "__init__" "NoTie.__init__" sI22 f fd) (T : Exk K C) (n1 : PySem.W.findIn K (.ref C) "tie" = some none) (n2 : PySem.W.findIn K (.ref C) "word" = some none) : FnOk P w K mg base CX0 1 f fd ["self", "tie"] (spI1 C "tie" "NoTie") := by
  refine F.ok scI22 (fun vs H Q E h => ?_) (fun cdv A outer s H vs Q E hr h => ?_)
  · obtain ⟨a, v, rfl, _⟩ := h
    rfl
  · obtain ⟨a, v, rfl, ha, K1⟩ := h
    refine ⟨_, pss_cons (ps_stX (pv 0) (pv 1)) (pss_one (ps_stX (pv 0) pe_str)), _, rfl, _, rfl, a, C, rfl, T, n1, .inl ⟨ha, fun d nd ne => ?_⟩⟩
    exact ⟨_, rfl, a, C, rfl, T, n2, .inr ⟨d, _, ⟨upd_same, by rw [upd_ne ne]; exact upd_same⟩, by show 1 ≤ 900; decide, init_end1 K1 nd ne⟩⟩
abbrev sI23 : Stmt := inClass (topS 28) 0
theorem scI23 : FnScope ["self"] ["self"] (defScope sI23) := ⟨rfl, rfl, rfl, by decide +kernel, rfl, by decide +kernel, by decide +kernel⟩
theorem ok_i23 {f C : Addr} {fd : FuncData} (F : Fun K "__init__" "NothingLeft.__init__" sI23 f fd) (T : Exk K C) (n2 : PySem.W.findIn K (.ref C) "word" = some none) : FnOk P w K mg base CX0 1 f fd ["self"] (spI0 C "NothingLeft") := by
  refine F.ok scI23 (fun vs H Q E h => ?_) (fun cdv A outer s H vs Q E hr h => ?_)
  · obtain ⟨a, rfl, _⟩ := h
    rfl
  · obtain ⟨a, rfl, ha, K1⟩ := h
    exact ⟨_, pss_one (ps_stX (pv 0) pe_str), _, rfl, a, C, rfl, T, n2, .inl ⟨ha, fun d nd ne => init_end0 K1 nd ne⟩⟩
theorem ok_i10 {f fC C : Addr} {fd fdC : FuncData} (F : Fun K "__init__" "BadDeed.__init__" sI10 f fd) (G : Df P w K mg base 1 "copied" ["thing"] spCopied fC fdC) (T : Exk K C) (n1 : PySem.W.findIn K (.ref C) "first" = some none) (n2 : PySem.W.findIn K (.ref C) "word" = some none) : FnOk P w K mg base CX0 2 f fd ["self", "first"] (spI1s C "first" "BadDeed") := by
  refine F.ok scI10 (fun vs H Q E h => ?_) (fun cdv A outer s H vs Q E hr h => ?_)
  · obtain ⟨z, ⟨a, rfl⟩, _⟩ := h
    rfl
  · obtain ⟨z, ⟨a, rfl⟩, a', v, ev, ha, K1⟩ := h
    cases ev
    refine ⟨_, pss_cons (ps_stX (pv 0) (pe_call G.ok hr (by rfl) G.gl G.kp G.bd .nil pass0 (pa_cons (pv 1) pa_nil))) (pss_one (ps_stX (pv 0) pe_str)), _, rfl, z, rfl, _, rfl, a, C, rfl, T, n1, .inl ⟨ha, fun d nd ne => ?_⟩⟩
    exact ⟨_, rfl, a, C, rfl, T, n2, .inr ⟨d, _, ⟨upd_same, by rw [upd_ne ne]; exact upd_same⟩, by show 1 ≤ 900; decide, init_end1 K1 nd ne⟩⟩
end
end Wb
namespace Wb
open PySem PySem.Spec PyProof.Rows L2 RZ Xk
abbrev sAll : Stmt := topS 37
abbrev sFlags : Stmt := topS 38
abbrev sField : Stmt := topS 39
abbrev Spc := Str × Addr × List (Str × V)
def Row (H : Hp) (v : V) (s : Spc) : Prop := ∃ t a d, v = .ref t ∧ H t = some (.tup [.str s.1, .ref a]) ∧ Er H a s.2.1 d s.2.2
theorem er_same {H H' : Hp} {a C d : Addr} {fs : List (Str × V)} (s : Same H H') (e : Er H a C d fs) : Er H' a C d fs := ⟨s _ _ e.1, s _ _ e.2⟩
theorem row_same {H H' : Hp} (s : Same H H') {v : V} {x : Spc} (r : Row H v x) : Row H' v x := by
  obtain ⟨t, a, d, e, h, er⟩ := r
  exact ⟨t, a, d, e, s _ _ h, er_same s er⟩
abbrev Rows (H : Hp) : List V → List Spc → Prop := Paired (Row H)
theorem rows_same {H H' : Hp} (s : Same H H') {vs : List V} {xs : List Spc} (r : Rows H vs xs) : Rows H' vs xs := Paired.mapP r fun _ _ => row_same s
theorem paired_app {α β : Type} {F : α → β → Prop} : ∀ {a b : List α} {c d : List β}, Paired F a c → Paired F b d → Paired F (a ++ b) (c ++ d)
  | _, _, _, _, .nil, s => s
  | _, _, _, _, .cons r t, s => .cons r (paired_app t s)
/-- an element of the list: a new pair of a word and a new error -/
def EL (te : TE) (σ : L2.St) (x : Spc) : Prop := ∀ (H : Hp) (Q : VK), (∀ t H', Same H H' → Row H' (.ref t) x → Q (.ref t) H') → te σ H Q
theorem el_end {H H' : Hp} {a C d t : Addr} {w : Str} {fs : List (Str × V)} {Q : VK} (na : H a = none) (nd : (upd H a (exo a C none)) d = none) (er : Er H' a C d fs) (kp : ∀ c o, c ≠ a → (upd H a (exo a C none)) c = some o → H' c = some o) (nt : H' t = none)
    (h : ∀ t H', Same H H' → Row H' (.ref t) (w, C, fs) → Q (.ref t) H') : Q (.ref t) (upd H' t (.tup [.str w, .ref a])) := by
  have s : Same H H' := fun c o e => kp c o (ne_of_none e na) (by rw [upd_ne (ne_of_none e na)]; exact e)
  have s2 : Same H' (upd H' t (.tup [.str w, .ref a])) := same_upd nt
  exact h t _ (s.trans s2) ⟨t, a, d, rfl, upd_same, er_same s2 er⟩
theorem el1 {σ : L2.St} {i : Nat} {v : V} {C : Addr} {f w : Str} (hv : σ[i]? = some (some v)) : EL (tTup (tCons (tC (.str w)) (tCons (tMkX C (spI1 C f w) (tCons (tVar i) tNil)) tNil))) σ (w, C, [("word", .str w), (f, v)]) := fun H Q h =>
  ⟨v, hv, (by show 1 ≤ 1000; decide), fun a na => ⟨a, v, rfl, upd_same, fun d H' nd ne er kp => ⟨rfl, (by show 2 ≤ sizeLine; decide), fun t nt => el_end na nd er kp nt h⟩⟩⟩
theorem el1k {σ : L2.St} {i : Nat} {v : V} {C : Addr} {f w : Str} (hv : σ[i]? = some (some v)) : EL (tTup (tCons (tC (.str w)) (tCons (tMkXk C (spI1 C f w) (tVar i)) tNil))) σ (w, C, [("word", .str w), (f, v)]) := fun H Q h =>
  ⟨v, hv, v, rfl, fun a na => ⟨a, v, rfl, upd_same, fun d H' nd ne er kp => ⟨rfl, (by show 2 ≤ sizeLine; decide), fun t nt => el_end na nd er kp nt h⟩⟩⟩
theorem el1s {σ : L2.St} {i : Nat} {z : Str} {C : Addr} {f w : Str} (hv : σ[i]? = some (some (.str z))) : EL (tTup (tCons (tC (.str w)) (tCons (tMkX C (spI1s C f w) (tCons (tVar i) tNil)) tNil))) σ (w, C, [("word", .str w), (f, .str z)]) := fun H Q h =>
  ⟨_, hv, (by show 1 ≤ 1000; decide), fun a na => ⟨z, ⟨a, rfl⟩, a, _, rfl, upd_same, fun d H' nd ne er kp => ⟨rfl, (by show 2 ≤ sizeLine; decide), fun t nt => el_end na nd er kp nt h⟩⟩⟩
theorem el0 {σ : L2.St} {C : Addr} {w : Str} : EL (tTup (tCons (tC (.str w)) (tCons (tMkX C (spI0 C w) tNil) tNil))) σ (w, C, [("word", .str w)]) := fun H Q h =>
  ⟨(by show 0 ≤ 1000; decide), fun a na => ⟨a, rfl, upd_same, fun d H' nd ne er kp => ⟨rfl, (by show 2 ≤ sizeLine; decide), fun t nt => el_end na nd er kp nt h⟩⟩⟩
theorem lst3 {σ : L2.St} {e1 e2 e3 : TE} {x1 x2 x3 : Spc} (h1 : EL e1 σ x1) (h2 : EL e2 σ x2) (h3 : EL e3 σ x3) {H : Hp} {Q : VK} (h : ∀ p vs H', Same H H' → H p = none → H' p = some (.lst vs) → vs.length = 3 → Rows H' vs [x1, x2, x3] → Q (.ref p) H') :
    tLst (tCons e1 (tCons e2 (tCons e3 tNil))) σ H Q := by
  refine h1 H _ fun t1 H1 s1 r1 => h2 H1 _ fun t2 H2 s2 r2 => h3 H2 _ fun t3 H3 s3 r3 => ⟨(by show 3 ≤ sizeLine; decide), fun p np => ?_⟩
  have s4 : Same H3 (upd H3 p (.lst [.ref t1, .ref t2, .ref t3])) := same_upd np
  have s := (s1.trans s2).trans s3
  exact h p _ _ (s.trans s4) (s.free np) upd_same rfl (.cons (row_same (s2.trans (s3.trans s4)) r1) (.cons (row_same (s3.trans s4) r2) (.cons (row_same s4 r3) .nil)))
theorem cat3 {σ : L2.St} {e1 e2 e3 : TE} {x1 x2 x3 : Spc} {l : Addr} {us : List V} {S : List Spc} {i : Nat} {H : Hp} {Q : VK} (hv : σ[i]? = some (some (.ref l))) (hl : H l = some (.lst us)) (hr : Rows H us S) (hn : us.length ≤ 100) (h1 : EL e1 σ x1) (h2 : EL e2 σ x2) (h3 : EL e3 σ x3)
    (h : ∀ p vs H', Same H H' → H p = none → H' p = some (.lst vs) → vs.length = us.length + 3 → Rows H' vs (S ++ [x1, x2, x3]) → Q (.ref p) H') : tOp rCat (tVar i) (tLst (tCons e1 (tCons e2 (tCons e3 tNil)))) σ H Q := by
  refine ⟨_, hv, lst3 h1 h2 h3 fun q vs H' s nq eq ln r => ⟨l, q, us, vs, rfl, rfl, s _ _ hl, eq, ?_, fun p np => ?_⟩⟩
  · rw [ln]
    exact Nat.le_trans (by omega) (show 103 ≤ sizeLine by decide)
  · have s2 : Same H' (upd H' p (.lst (us ++ vs))) := same_upd np
    exact h p _ _ (s.trans s2) (s.free np) upd_same (by rw [List.length_append, ln]) (paired_app (rows_same (s.trans s2) hr) (rows_same s2 r))
theorem seq_set {te : TE} {i : Nat} {rest : TS} {D : Ends} {σ : L2.St} {H : Hp} (h : te σ H fun v H' => rest D (σ.set i (some v)) H') : tSeq (tAsg te (gName i)) rest D σ H := h
theorem ret_of {te : TE} {D : Ends} {σ : L2.St} {H : Hp} (h : te σ H D.rt) : tRet te D σ H := h
/-! ### the classes as the top has made them -/
structure Cl1 (P : Program) (w : World) (K : PySem.W.Frag) (mg : Str → Option Value) (base : Heap) (lv : Nat) (x f : Str) (C : Addr) (sp : Sp) : Prop where
  gl : mg x = some (.ref C)
  ex : Exk K C
  ini : ∃ fI fd, Xmk K C fI ∧ FnOk P w K mg base CX0 lv fI fd ["self", f] sp ∧ Binds K fd ["self", f] [] ∧ ∀ (s : Shared) (v z : Value), K.In s.heap → BindsTo s fd ⟨[v], [(f, z)]⟩ ((["self", f] : List Str).zip [v, z])
  nf : PySem.W.findIn K (.ref C) f = some none
  nw : PySem.W.findIn K (.ref C) "word" = some none
structure Cl0 (P : Program) (w : World) (K : PySem.W.Frag) (mg : Str → Option Value) (base : Heap) (x : Str) (C : Addr) (sp : Sp) : Prop where
  gl : mg x = some (.ref C)
  ex : Exk K C
  ini : ∃ fI fd, Xmk K C fI ∧ FnOk P w K mg base CX0 1 fI fd ["self"] sp ∧ ∀ (s : Shared) (v : Value), K.In s.heap → BindsTo s fd ⟨[v], []⟩ ((["self"] : List Str).zip [v])
  nw : PySem.W.findIn K (.ref C) "word" = some none
def specs (Cs : Nat → Addr) (n : V) (z : Str) (t : V) : List Spc := [("BadSize", Cs 0, [("word", V.str "BadSize"), ("number", n)]),
  ("BadArrow", Cs 1, [("word", V.str "BadArrow"), ("at", n)]),
  ("BadMark", Cs 2, [("word", V.str "BadMark"), ("at", n)]),
  ("BadPoint", Cs 3, [("word", V.str "BadPoint"), ("number", n)]),
  ("BadTie", Cs 4, [("word", V.str "BadTie"), ("tie", t)]),
  ("BadText", Cs 5, [("word", V.str "BadText"), ("at", n)]),
  ("BadName", Cs 6, [("word", V.str "BadName"), ("name", (.str z))]),
  ("BadNumber", Cs 7, [("word", V.str "BadNumber"), ("number", n)]),
  ("BadSaying", Cs 8, [("word", V.str "BadSaying")]),
  ("BadStrike", Cs 9, [("word", V.str "BadStrike"), ("at", n)]),
  ("BadDeed", Cs 10, [("word", V.str "BadDeed"), ("first", (.str z))]),
  ("NotTree", Cs 11, [("word", V.str "NotTree")]),
  ("NotTold", Cs 12, [("word", V.str "NotTold")]),
  ("TooMany", Cs 13, [("word", V.str "TooMany"), ("bound", n)]),
  ("Taken", Cs 14, [("word", V.str "Taken"), ("name", (.str z))]),
  ("Full", Cs 15, [("word", V.str "Full"), ("bound", n)]),
  ("InUse", Cs 16, [("word", V.str "InUse"), ("name", (.str z))]),
  ("Same", Cs 17, [("word", V.str "Same"), ("tie", t)]),
  ("NoWeb", Cs 18, [("word", V.str "NoWeb"), ("name", (.str z))]),
  ("NoTree", Cs 19, [("word", V.str "NoTree"), ("name", (.str z))]),
  ("NoRule", Cs 20, [("word", V.str "NoRule"), ("name", (.str z))]),
  ("NoThing", Cs 21, [("word", V.str "NoThing"), ("name", (.str z))]),
  ("NoTie", Cs 22, [("word", V.str "NoTie"), ("tie", t)]),
  ("NothingLeft", Cs 23, [("word", V.str "NothingLeft")])]
structure Cls24 (P : Program) (w : World) (K : PySem.W.Frag) (mg : Str → Option Value) (base : Heap) (Cs : Nat → Addr) : Prop where
  c0 : Cl1 P w K mg base 1 "BadSize" "number" (Cs 0) (spI1 (Cs 0) "number" "BadSize")
  c1 : Cl1 P w K mg base 1 "BadArrow" "at" (Cs 1) (spI1 (Cs 1) "at" "BadArrow")
  c2 : Cl1 P w K mg base 1 "BadMark" "at" (Cs 2) (spI1 (Cs 2) "at" "BadMark")
  c3 : Cl1 P w K mg base 1 "BadPoint" "number" (Cs 3) (spI1 (Cs 3) "number" "BadPoint")
  c4 : Cl1 P w K mg base 1 "BadTie" "tie" (Cs 4) (spI1 (Cs 4) "tie" "BadTie")
  c5 : Cl1 P w K mg base 1 "BadText" "at" (Cs 5) (spI1 (Cs 5) "at" "BadText")
  c6 : Cl1 P w K mg base 1 "BadName" "name" (Cs 6) (spI1 (Cs 6) "name" "BadName")
  c7 : Cl1 P w K mg base 1 "BadNumber" "number" (Cs 7) (spI1 (Cs 7) "number" "BadNumber")
  c8 : Cl0 P w K mg base "BadSaying" (Cs 8) (spI0 (Cs 8) "BadSaying")
  c9 : Cl1 P w K mg base 1 "BadStrike" "at" (Cs 9) (spI1 (Cs 9) "at" "BadStrike")
  c10 : Cl1 P w K mg base 2 "BadDeed" "first" (Cs 10) (spI1s (Cs 10) "first" "BadDeed")
  c11 : Cl0 P w K mg base "NotTree" (Cs 11) (spI0 (Cs 11) "NotTree")
  c12 : Cl0 P w K mg base "NotTold" (Cs 12) (spI0 (Cs 12) "NotTold")
  c13 : Cl1 P w K mg base 1 "TooMany" "bound" (Cs 13) (spI1 (Cs 13) "bound" "TooMany")
  c14 : Cl1 P w K mg base 1 "Taken" "name" (Cs 14) (spI1 (Cs 14) "name" "Taken")
  c15 : Cl1 P w K mg base 1 "Full" "bound" (Cs 15) (spI1 (Cs 15) "bound" "Full")
  c16 : Cl1 P w K mg base 1 "InUse" "name" (Cs 16) (spI1 (Cs 16) "name" "InUse")
  c17 : Cl1 P w K mg base 1 "Same" "tie" (Cs 17) (spI1 (Cs 17) "tie" "Same")
  c18 : Cl1 P w K mg base 1 "NoWeb" "name" (Cs 18) (spI1 (Cs 18) "name" "NoWeb")
  c19 : Cl1 P w K mg base 1 "NoTree" "name" (Cs 19) (spI1 (Cs 19) "name" "NoTree")
  c20 : Cl1 P w K mg base 1 "NoRule" "name" (Cs 20) (spI1 (Cs 20) "name" "NoRule")
  c21 : Cl1 P w K mg base 1 "NoThing" "name" (Cs 21) (spI1 (Cs 21) "name" "NoThing")
  c22 : Cl1 P w K mg base 1 "NoTie" "tie" (Cs 22) (spI1 (Cs 22) "tie" "NoTie")
  c23 : Cl0 P w K mg base "NothingLeft" (Cs 23) (spI0 (Cs 23) "NothingLeft")
section
variable {P : Program} {w : World} {K : PySem.W.Frag} {mg : Str → Option Value} {base : Heap}
def spAll (Cs : Nat → Addr) : Sp := fun vs H Q _ => ∃ n z t, vs = [n, .str z, t] ∧ ∀ p us H', Same H H' → H p = none → H' p = some (.lst us) → us.length = 24 → Rows H' us (specs Cs n z t) → Q (.ref p) H'
theorem scAl : FnScope ["_law_number", "_law_text", "_law_my_tie", "_law_found"] ["_law_number", "_law_text", "_law_my_tie"] (defScope sAll) := ⟨rfl, rfl, rfl, by decide +kernel, rfl, by decide +kernel, by decide +kernel⟩
set_option maxHeartbeats 4000000 in
theorem ok_all {f : Addr} {fd : FuncData} {Cs : Nat → Addr} (F : Fun K "_law_all" "_law_all" sAll f fd) (c : Cls24 P w K mg base Cs) : FnOk P w K mg base CX0 4 f fd ["_law_number", "_law_text", "_law_my_tie"] (spAll Cs) := by
  obtain ⟨i0, d0, M0, F0, B0, K0⟩ := c.c0.ini
  obtain ⟨i1, d1, M1, F1, B1, K1⟩ := c.c1.ini
  obtain ⟨i2, d2, M2, F2, B2, K2⟩ := c.c2.ini
  obtain ⟨i3, d3, M3, F3, B3, K3⟩ := c.c3.ini
  obtain ⟨i4, d4, M4, F4, B4, K4⟩ := c.c4.ini
  obtain ⟨i5, d5, M5, F5, B5, K5⟩ := c.c5.ini
  obtain ⟨i6, d6, M6, F6, B6, K6⟩ := c.c6.ini
  obtain ⟨i7, d7, M7, F7, B7, K7⟩ := c.c7.ini
  obtain ⟨i8, d8, M8, F8, B8⟩ := c.c8.ini
  obtain ⟨i9, d9, M9, F9, B9, K9⟩ := c.c9.ini
  obtain ⟨i10, d10, M10, F10, B10, K10⟩ := c.c10.ini
  obtain ⟨i11, d11, M11, F11, B11⟩ := c.c11.ini
  obtain ⟨i12, d12, M12, F12, B12⟩ := c.c12.ini
  obtain ⟨i13, d13, M13, F13, B13, K13⟩ := c.c13.ini
  obtain ⟨i14, d14, M14, F14, B14, K14⟩ := c.c14.ini
  obtain ⟨i15, d15, M15, F15, B15, K15⟩ := c.c15.ini
  obtain ⟨i16, d16, M16, F16, B16, K16⟩ := c.c16.ini
  obtain ⟨i17, d17, M17, F17, B17, K17⟩ := c.c17.ini
  obtain ⟨i18, d18, M18, F18, B18, K18⟩ := c.c18.ini
  obtain ⟨i19, d19, M19, F19, B19, K19⟩ := c.c19.ini
  obtain ⟨i20, d20, M20, F20, B20, K20⟩ := c.c20.ini
  obtain ⟨i21, d21, M21, F21, B21, K21⟩ := c.c21.ini
  obtain ⟨i22, d22, M22, F22, B22, K22⟩ := c.c22.ini
  obtain ⟨i23, d23, M23, F23, B23⟩ := c.c23.ini
  refine F.ok scAl (fun vs H Q E h => ?_) (fun cdv A outer s H vs Q E hr h => ?_)
  · obtain ⟨n, z, t, rfl, _⟩ := h
    rfl
  · obtain ⟨n, z, t, rfl, KQ⟩ := h
    refine ⟨_, pss_cons (ps_set (i := 3) scAl.nd rfl (.inl rfl) (pe_lst (pa_cons (pe_tup (pa_cons pe_str (pa_cons (pe_mkX M0 F0 (hr.mono (by decide)) (by rfl) c.c0.gl B0 (pa_cons (pv 0) pa_nil)) pa_nil))) (pa_cons (pe_tup (pa_cons pe_str (pa_cons (pe_mkXk M1 F1 (hr.mono (by decide)) (by rfl) c.c1.gl K1 (pv 0)) pa_nil))) (pa_cons (pe_tup (pa_cons pe_str (pa_cons (pe_mkX M2 F2 (hr.mono (by decide)) (by rfl) c.c2.gl B2 (pa_cons (pv 0) pa_nil)) pa_nil))) pa_nil)))))
      (pss_cons (ps_set (i := 3) scAl.nd rfl (.inl rfl) (pe_op op_cat (pv 3) (pe_lst (pa_cons (pe_tup (pa_cons pe_str (pa_cons (pe_mkX M3 F3 (hr.mono (by decide)) (by rfl) c.c3.gl B3 (pa_cons (pv 0) pa_nil)) pa_nil))) (pa_cons (pe_tup (pa_cons pe_str (pa_cons (pe_mkX M4 F4 (hr.mono (by decide)) (by rfl) c.c4.gl B4 (pa_cons (pv 2) pa_nil)) pa_nil))) (pa_cons (pe_tup (pa_cons pe_str (pa_cons (pe_mkX M5 F5 (hr.mono (by decide)) (by rfl) c.c5.gl B5 (pa_cons (pv 0) pa_nil)) pa_nil))) pa_nil))))))
      (pss_cons (ps_set (i := 3) scAl.nd rfl (.inl rfl) (pe_op op_cat (pv 3) (pe_lst (pa_cons (pe_tup (pa_cons pe_str (pa_cons (pe_mkXk M6 F6 (hr.mono (by decide)) (by rfl) c.c6.gl K6 (pv 1)) pa_nil))) (pa_cons (pe_tup (pa_cons pe_str (pa_cons (pe_mkX M7 F7 (hr.mono (by decide)) (by rfl) c.c7.gl B7 (pa_cons (pv 0) pa_nil)) pa_nil))) (pa_cons (pe_tup (pa_cons pe_str (pa_cons (pe_mkX0 M8 F8 (hr.mono (by decide)) (by rfl) c.c8.gl B8) pa_nil))) pa_nil))))))
      (pss_cons (ps_set (i := 3) scAl.nd rfl (.inl rfl) (pe_op op_cat (pv 3) (pe_lst (pa_cons (pe_tup (pa_cons pe_str (pa_cons (pe_mkX M9 F9 (hr.mono (by decide)) (by rfl) c.c9.gl B9 (pa_cons (pv 0) pa_nil)) pa_nil))) (pa_cons (pe_tup (pa_cons pe_str (pa_cons (pe_mkX M10 F10 hr (by rfl) c.c10.gl B10 (pa_cons (pv 1) pa_nil)) pa_nil))) (pa_cons (pe_tup (pa_cons pe_str (pa_cons (pe_mkX0 M11 F11 (hr.mono (by decide)) (by rfl) c.c11.gl B11) pa_nil))) pa_nil))))))
      (pss_cons (ps_set (i := 3) scAl.nd rfl (.inl rfl) (pe_op op_cat (pv 3) (pe_lst (pa_cons (pe_tup (pa_cons pe_str (pa_cons (pe_mkX0 M12 F12 (hr.mono (by decide)) (by rfl) c.c12.gl B12) pa_nil))) (pa_cons (pe_tup (pa_cons pe_str (pa_cons (pe_mkXk M13 F13 (hr.mono (by decide)) (by rfl) c.c13.gl K13 (pv 0)) pa_nil))) (pa_cons (pe_tup (pa_cons pe_str (pa_cons (pe_mkX M14 F14 (hr.mono (by decide)) (by rfl) c.c14.gl B14 (pa_cons (pv 1) pa_nil)) pa_nil))) pa_nil))))))
      (pss_cons (ps_set (i := 3) scAl.nd rfl (.inl rfl) (pe_op op_cat (pv 3) (pe_lst (pa_cons (pe_tup (pa_cons pe_str (pa_cons (pe_mkX M15 F15 (hr.mono (by decide)) (by rfl) c.c15.gl B15 (pa_cons (pv 0) pa_nil)) pa_nil))) (pa_cons (pe_tup (pa_cons pe_str (pa_cons (pe_mkX M16 F16 (hr.mono (by decide)) (by rfl) c.c16.gl B16 (pa_cons (pv 1) pa_nil)) pa_nil))) (pa_cons (pe_tup (pa_cons pe_str (pa_cons (pe_mkXk M17 F17 (hr.mono (by decide)) (by rfl) c.c17.gl K17 (pv 2)) pa_nil))) pa_nil))))))
      (pss_cons (ps_set (i := 3) scAl.nd rfl (.inl rfl) (pe_op op_cat (pv 3) (pe_lst (pa_cons (pe_tup (pa_cons pe_str (pa_cons (pe_mkX M18 F18 (hr.mono (by decide)) (by rfl) c.c18.gl B18 (pa_cons (pv 1) pa_nil)) pa_nil))) (pa_cons (pe_tup (pa_cons pe_str (pa_cons (pe_mkX M19 F19 (hr.mono (by decide)) (by rfl) c.c19.gl B19 (pa_cons (pv 1) pa_nil)) pa_nil))) (pa_cons (pe_tup (pa_cons pe_str (pa_cons (pe_mkX M20 F20 (hr.mono (by decide)) (by rfl) c.c20.gl B20 (pa_cons (pv 1) pa_nil)) pa_nil))) pa_nil))))))
      (pss_one (ps_ret (pe_op op_cat (pv 3) (pe_lst (pa_cons (pe_tup (pa_cons pe_str (pa_cons (pe_mkX M21 F21 (hr.mono (by decide)) (by rfl) c.c21.gl B21 (pa_cons (pv 1) pa_nil)) pa_nil))) (pa_cons (pe_tup (pa_cons pe_str (pa_cons (pe_mkX M22 F22 (hr.mono (by decide)) (by rfl) c.c22.gl B22 (pa_cons (pv 2) pa_nil)) pa_nil))) (pa_cons (pe_tup (pa_cons pe_str (pa_cons (pe_mkX0 M23 F23 (hr.mono (by decide)) (by rfl) c.c23.gl B23) pa_nil))) pa_nil))))))))))))), ?_⟩
    refine seq_set (lst3 (el1 (by rfl)) (el1k (by rfl)) (el1 (by rfl)) fun p0 u0 H0 s0 n0 e0 l0 r0 => ?_)
    refine seq_set (cat3 (by rfl) e0 r0 (by omega) (el1 (by rfl)) (el1 (by rfl)) (el1 (by rfl)) fun p1 u1 H1 t1 m1 e1 l1 r1 => ?_)
    have s1 := s0.trans t1
    refine seq_set (cat3 (by rfl) e1 r1 (by omega) (el1k (by rfl)) (el1 (by rfl)) el0 fun p2 u2 H2 t2 m2 e2 l2 r2 => ?_)
    have s2 := s1.trans t2
    refine seq_set (cat3 (by rfl) e2 r2 (by omega) (el1 (by rfl)) (el1s (by rfl)) el0 fun p3 u3 H3 t3 m3 e3 l3 r3 => ?_)
    have s3 := s2.trans t3
    refine seq_set (cat3 (by rfl) e3 r3 (by omega) el0 (el1k (by rfl)) (el1 (by rfl)) fun p4 u4 H4 t4 m4 e4 l4 r4 => ?_)
    have s4 := s3.trans t4
    refine seq_set (cat3 (by rfl) e4 r4 (by omega) (el1 (by rfl)) (el1 (by rfl)) (el1k (by rfl)) fun p5 u5 H5 t5 m5 e5 l5 r5 => ?_)
    have s5 := s4.trans t5
    refine seq_set (cat3 (by rfl) e5 r5 (by omega) (el1 (by rfl)) (el1 (by rfl)) (el1 (by rfl)) fun p6 u6 H6 t6 m6 e6 l6 r6 => ?_)
    have s6 := s5.trans t6
    refine ret_of (cat3 (by rfl) e6 r6 (by omega) (el1 (by rfl)) (el1 (by rfl)) el0 fun p7 u7 H7 t7 m7 e7 l7 r7 => ?_)
    have s7 := s6.trans t7
    exact KQ p7 u7 H7 s7 (s6.free m7) e7 (by omega) r7
end
end Wb
namespace Wb
open PySem PySem.Spec PyProof.Rows L2 RZ Xk
/-! ### which classes it is of -/
def EB (te : TE) (σ : L2.St) (H : Hp) (b : Bool) : Prop := ∀ Q : VK, Q (.bl b) H → te σ H Q
theorem isq {K : PySem.W.Frag} {σ : L2.St} {H : Hp} {a C d Cj : Addr} {fs : List (Str × V)} {i : Nat} {b : Bool} (hv : σ[i]? = some (some (.ref a))) (T : Exk K C) (e : Er H a C d fs) (k : PySem.W.kitOne K (.ref C) (.ref Cj) = some b) : EB (tCB (rIsX K) (tCons (tVar i) (tCons (tC (.ref Cj)) tNil))) σ H b :=
  fun Q q => ⟨_, hv, a, C, d, fs, _, _, b, rfl, .own Cj, T, e, k, q⟩
theorem isqT {K : PySem.W.Frag} {σ : L2.St} {H : Hp} {a C d : Addr} {fs : List (Str × V)} {i : Nat} {b : Bool} {n : String} (hv : σ[i]? = some (some (.ref a))) (T : Exk K C) (e : Er H a C d fs) (k : PySem.W.kitOne K (.ref C) (.type n) = some b) : EB (tCB (rIsX K) (tCons (tVar i) (tCons (tC (.ty n)) tNil))) σ H b :=
  fun Q q => ⟨_, hv, a, C, d, fs, _, _, b, rfl, .ty n, T, e, k, q⟩
theorem lst4 {σ : L2.St} {e1 e2 e3 e4 : TE} {b1 b2 b3 b4 : Bool} {H : Hp} {Q : VK} (h1 : EB e1 σ H b1) (h2 : EB e2 σ H b2) (h3 : EB e3 σ H b3) (h4 : EB e4 σ H b4) (h : ∀ p, H p = none → Q (.ref p) (upd H p (.lst ([b1, b2, b3, b4].map V.bl)))) : tLst (tCons e1 (tCons e2 (tCons e3 (tCons e4 tNil)))) σ H Q :=
  h1 _ (h2 _ (h3 _ (h4 _ ⟨(by show 4 ≤ sizeLine; decide), h⟩)))
theorem cat4 {σ : L2.St} {e1 e2 e3 e4 : TE} {b1 b2 b3 b4 : Bool} {bs : List Bool} {l : Addr} {i : Nat} {H : Hp} {Q : VK} (hv : σ[i]? = some (some (.ref l))) (hl : H l = some (.lst (bs.map V.bl))) (hn : bs.length ≤ 100) (h1 : EB e1 σ H b1) (h2 : EB e2 σ H b2) (h3 : EB e3 σ H b3) (h4 : EB e4 σ H b4)
    (h : ∀ p H', Same H H' → H p = none → H' p = some (.lst ((bs ++ [b1, b2, b3, b4]).map V.bl)) → Q (.ref p) H') : tOp rCat (tVar i) (tLst (tCons e1 (tCons e2 (tCons e3 (tCons e4 tNil))))) σ H Q := by
  refine ⟨_, hv, lst4 h1 h2 h3 h4 fun q nq => ⟨l, q, _, _, rfl, rfl, same_upd nq _ _ hl, upd_same, ?_, fun p np => ?_⟩⟩
  · rw [List.length_map]
    exact Nat.le_trans (show bs.length + 4 ≤ 104 by omega) (show 104 ≤ sizeLine by decide)
  · have s := (same_upd (o := .lst ([b1, b2, b3, b4].map V.bl)) nq).trans (same_upd (o := .lst (bs.map V.bl ++ [b1, b2, b3, b4].map V.bl)) np)
    refine h p _ s ((same_upd nq).free np) ?_
    rw [upd_same, List.map_append]
section
variable {P : Program} {w : World} {K : PySem.W.Frag} {mg : Str → Option Value} {base : Heap}
def flg (k : Nat) : List Bool := (List.range 24).map fun j => decide (k = j)
def spFlags (K : PySem.W.Frag) (Cs : Nat → Addr) : Sp := fun vs H Q _ => ∃ a C d fs k, vs = [.ref a] ∧ Er H a C d fs ∧ Exk K C ∧ (∀ j, j < 24 → PySem.W.kitOne K (.ref C) (.ref (Cs j)) = some (decide (k = j))) ∧ ∀ p H', Same H H' → H p = none → H' p = some (.lst ((flg k).map V.bl)) → Q (.ref p) H'
theorem scFl : FnScope ["_law_e", "_law_found"] ["_law_e"] (defScope sFlags) := ⟨rfl, rfl, rfl, by decide +kernel, rfl, by decide +kernel, by decide +kernel⟩
set_option maxHeartbeats 4000000 in
theorem ok_flags {f : Addr} {fd : FuncData} {Cs : Nat → Addr} (F : Fun K "_law_flags" "_law_flags" sFlags f fd) (mi : mg "isinstance" = none) (c : Cls24 P w K mg base Cs) : FnOk P w K mg base CX0 1 f fd ["_law_e"] (spFlags K Cs) := by
  refine F.ok scFl (fun vs H Q E h => ?_) (fun cdv A outer s H vs Q E hr h => ?_)
  · obtain ⟨a, C, d, fs, k, rfl, _⟩ := h
    rfl
  · obtain ⟨a, C, d, fs, k, rfl, er, T, kk, KQ⟩ := h
    refine ⟨_, pss_cons (ps_set (i := 1) scFl.nd rfl (.inl rfl) (pe_lst (pa_cons (pe_callB call_isX (by rfl) mi boot_isinstance (pa_cons (pv 0) (pa_cons (pe_glob (v := .ref (Cs 0)) (by rfl) c.c0.gl rfl) pa_nil))) (pa_cons (pe_callB call_isX (by rfl) mi boot_isinstance (pa_cons (pv 0) (pa_cons (pe_glob (v := .ref (Cs 1)) (by rfl) c.c1.gl rfl) pa_nil))) (pa_cons (pe_callB call_isX (by rfl) mi boot_isinstance (pa_cons (pv 0) (pa_cons (pe_glob (v := .ref (Cs 2)) (by rfl) c.c2.gl rfl) pa_nil))) (pa_cons (pe_callB call_isX (by rfl) mi boot_isinstance (pa_cons (pv 0) (pa_cons (pe_glob (v := .ref (Cs 3)) (by rfl) c.c3.gl rfl) pa_nil))) pa_nil))))))
      (pss_cons (ps_set (i := 1) scFl.nd rfl (.inl rfl) (pe_op op_cat (pv 1) (pe_lst (pa_cons (pe_callB call_isX (by rfl) mi boot_isinstance (pa_cons (pv 0) (pa_cons (pe_glob (v := .ref (Cs 4)) (by rfl) c.c4.gl rfl) pa_nil))) (pa_cons (pe_callB call_isX (by rfl) mi boot_isinstance (pa_cons (pv 0) (pa_cons (pe_glob (v := .ref (Cs 5)) (by rfl) c.c5.gl rfl) pa_nil))) (pa_cons (pe_callB call_isX (by rfl) mi boot_isinstance (pa_cons (pv 0) (pa_cons (pe_glob (v := .ref (Cs 6)) (by rfl) c.c6.gl rfl) pa_nil))) (pa_cons (pe_callB call_isX (by rfl) mi boot_isinstance (pa_cons (pv 0) (pa_cons (pe_glob (v := .ref (Cs 7)) (by rfl) c.c7.gl rfl) pa_nil))) pa_nil)))))))
      (pss_cons (ps_set (i := 1) scFl.nd rfl (.inl rfl) (pe_op op_cat (pv 1) (pe_lst (pa_cons (pe_callB call_isX (by rfl) mi boot_isinstance (pa_cons (pv 0) (pa_cons (pe_glob (v := .ref (Cs 8)) (by rfl) c.c8.gl rfl) pa_nil))) (pa_cons (pe_callB call_isX (by rfl) mi boot_isinstance (pa_cons (pv 0) (pa_cons (pe_glob (v := .ref (Cs 9)) (by rfl) c.c9.gl rfl) pa_nil))) (pa_cons (pe_callB call_isX (by rfl) mi boot_isinstance (pa_cons (pv 0) (pa_cons (pe_glob (v := .ref (Cs 10)) (by rfl) c.c10.gl rfl) pa_nil))) (pa_cons (pe_callB call_isX (by rfl) mi boot_isinstance (pa_cons (pv 0) (pa_cons (pe_glob (v := .ref (Cs 11)) (by rfl) c.c11.gl rfl) pa_nil))) pa_nil)))))))
      (pss_cons (ps_set (i := 1) scFl.nd rfl (.inl rfl) (pe_op op_cat (pv 1) (pe_lst (pa_cons (pe_callB call_isX (by rfl) mi boot_isinstance (pa_cons (pv 0) (pa_cons (pe_glob (v := .ref (Cs 12)) (by rfl) c.c12.gl rfl) pa_nil))) (pa_cons (pe_callB call_isX (by rfl) mi boot_isinstance (pa_cons (pv 0) (pa_cons (pe_glob (v := .ref (Cs 13)) (by rfl) c.c13.gl rfl) pa_nil))) (pa_cons (pe_callB call_isX (by rfl) mi boot_isinstance (pa_cons (pv 0) (pa_cons (pe_glob (v := .ref (Cs 14)) (by rfl) c.c14.gl rfl) pa_nil))) (pa_cons (pe_callB call_isX (by rfl) mi boot_isinstance (pa_cons (pv 0) (pa_cons (pe_glob (v := .ref (Cs 15)) (by rfl) c.c15.gl rfl) pa_nil))) pa_nil)))))))
      (pss_cons (ps_set (i := 1) scFl.nd rfl (.inl rfl) (pe_op op_cat (pv 1) (pe_lst (pa_cons (pe_callB call_isX (by rfl) mi boot_isinstance (pa_cons (pv 0) (pa_cons (pe_glob (v := .ref (Cs 16)) (by rfl) c.c16.gl rfl) pa_nil))) (pa_cons (pe_callB call_isX (by rfl) mi boot_isinstance (pa_cons (pv 0) (pa_cons (pe_glob (v := .ref (Cs 17)) (by rfl) c.c17.gl rfl) pa_nil))) (pa_cons (pe_callB call_isX (by rfl) mi boot_isinstance (pa_cons (pv 0) (pa_cons (pe_glob (v := .ref (Cs 18)) (by rfl) c.c18.gl rfl) pa_nil))) (pa_cons (pe_callB call_isX (by rfl) mi boot_isinstance (pa_cons (pv 0) (pa_cons (pe_glob (v := .ref (Cs 19)) (by rfl) c.c19.gl rfl) pa_nil))) pa_nil)))))))
      (pss_one (ps_ret (pe_op op_cat (pv 1) (pe_lst (pa_cons (pe_callB call_isX (by rfl) mi boot_isinstance (pa_cons (pv 0) (pa_cons (pe_glob (v := .ref (Cs 20)) (by rfl) c.c20.gl rfl) pa_nil))) (pa_cons (pe_callB call_isX (by rfl) mi boot_isinstance (pa_cons (pv 0) (pa_cons (pe_glob (v := .ref (Cs 21)) (by rfl) c.c21.gl rfl) pa_nil))) (pa_cons (pe_callB call_isX (by rfl) mi boot_isinstance (pa_cons (pv 0) (pa_cons (pe_glob (v := .ref (Cs 22)) (by rfl) c.c22.gl rfl) pa_nil))) (pa_cons (pe_callB call_isX (by rfl) mi boot_isinstance (pa_cons (pv 0) (pa_cons (pe_glob (v := .ref (Cs 23)) (by rfl) c.c23.gl rfl) pa_nil))) pa_nil)))))))))))), ?_⟩
    refine seq_set (lst4 (isq (by rfl) T er (kk 0 (by decide))) (isq (by rfl) T er (kk 1 (by decide))) (isq (by rfl) T er (kk 2 (by decide))) (isq (by rfl) T er (kk 3 (by decide))) fun p0 n0 => ?_)
    have s0 : Same H (upd H p0 (.lst ([decide (k = 0), decide (k = 1), decide (k = 2), decide (k = 3)].map V.bl))) := same_upd n0
    have e0 : (upd H p0 (.lst ([decide (k = 0), decide (k = 1), decide (k = 2), decide (k = 3)].map V.bl))) p0 = some (.lst ([decide (k = 0), decide (k = 1), decide (k = 2), decide (k = 3)].map V.bl)) := upd_same
    generalize upd H p0 (.lst ([decide (k = 0), decide (k = 1), decide (k = 2), decide (k = 3)].map V.bl)) = H0 at s0 e0
    refine seq_set (cat4 (by rfl) e0 (by simp) (isq (by rfl) T (er_same s0 er) (kk 4 (by decide))) (isq (by rfl) T (er_same s0 er) (kk 5 (by decide))) (isq (by rfl) T (er_same s0 er) (kk 6 (by decide))) (isq (by rfl) T (er_same s0 er) (kk 7 (by decide))) fun p1 H1 t1 m1 e1 => ?_)
    have s1 := s0.trans t1
    refine seq_set (cat4 (by rfl) e1 (by simp) (isq (by rfl) T (er_same s1 er) (kk 8 (by decide))) (isq (by rfl) T (er_same s1 er) (kk 9 (by decide))) (isq (by rfl) T (er_same s1 er) (kk 10 (by decide))) (isq (by rfl) T (er_same s1 er) (kk 11 (by decide))) fun p2 H2 t2 m2 e2 => ?_)
    have s2 := s1.trans t2
    refine seq_set (cat4 (by rfl) e2 (by simp) (isq (by rfl) T (er_same s2 er) (kk 12 (by decide))) (isq (by rfl) T (er_same s2 er) (kk 13 (by decide))) (isq (by rfl) T (er_same s2 er) (kk 14 (by decide))) (isq (by rfl) T (er_same s2 er) (kk 15 (by decide))) fun p3 H3 t3 m3 e3 => ?_)
    have s3 := s2.trans t3
    refine seq_set (cat4 (by rfl) e3 (by simp) (isq (by rfl) T (er_same s3 er) (kk 16 (by decide))) (isq (by rfl) T (er_same s3 er) (kk 17 (by decide))) (isq (by rfl) T (er_same s3 er) (kk 18 (by decide))) (isq (by rfl) T (er_same s3 er) (kk 19 (by decide))) fun p4 H4 t4 m4 e4 => ?_)
    have s4 := s3.trans t4
    refine ret_of (cat4 (by rfl) e4 (by simp) (isq (by rfl) T (er_same s4 er) (kk 20 (by decide))) (isq (by rfl) T (er_same s4 er) (kk 21 (by decide))) (isq (by rfl) T (er_same s4 er) (kk 22 (by decide))) (isq (by rfl) T (er_same s4 er) (kk 23 (by decide))) fun p5 H5 t5 m5 e5 => ?_)
    have s5 := s4.trans t5
    exact KQ p5 H5 s5 (s4.free m5) e5
/-! ### its field -/
def fnm : Nat → Str
  | 0 => "at"
  | 1 => "number"
  | 2 => "tie"
  | 3 => "bound"
  | 4 => "name"
  | _ => "first"
structure Fk (K : PySem.W.Frag) (Cs : Nat → Addr) (C : Addr) (kd : Nat) : Prop where
  g0 : PySem.W.kitAny K (.ref C) [.ref (Cs 1), .ref (Cs 2), .ref (Cs 5), .ref (Cs 9)] = some (decide (kd = 0))
  g1 : PySem.W.kitAny K (.ref C) [.ref (Cs 0), .ref (Cs 3), .ref (Cs 7)] = some (decide (kd = 1))
  g2 : PySem.W.kitAny K (.ref C) [.ref (Cs 4), .ref (Cs 17), .ref (Cs 22)] = some (decide (kd = 2))
  g3 : PySem.W.kitAny K (.ref C) [.ref (Cs 13), .ref (Cs 15)] = some (decide (kd = 3))
  g4 : PySem.W.kitAny K (.ref C) [.ref (Cs 6), .ref (Cs 14), .ref (Cs 16), .ref (Cs 18), .ref (Cs 19), .ref (Cs 20), .ref (Cs 21)] = some (decide (kd = 4))
  g5 : PySem.W.kitOne K (.ref C) (.ref (Cs 10)) = some (decide (kd = 5))
def spField (K : PySem.W.Frag) (Cs : Nat → Addr) : Sp := fun vs H Q _ => ∃ a C d fs kd v, vs = [.ref a] ∧ Er H a C d fs ∧ Exk K C ∧ kd ≤ 6 ∧ Fk K Cs C kd ∧ (kd < 6 → fs.lookup (fnm kd) = some v ∧ PySem.W.findIn K (.ref C) (fnm kd) = some none) ∧ (kd = 6 → v = .non) ∧ ∀ H', Same H H' → Q v H'
theorem scFd : FnScope ["_law_e"] ["_law_e"] (defScope sField) := ⟨rfl, rfl, rfl, by decide +kernel, rfl, by decide +kernel, by decide +kernel⟩
set_option maxHeartbeats 4000000 in
theorem ok_field {f : Addr} {fd : FuncData} {Cs : Nat → Addr} (F : Fun K "_law_field" "_law_field" sField f fd) (mi : mg "isinstance" = none) (c : Cls24 P w K mg base Cs) : FnOk P w K mg base CX0 1 f fd ["_law_e"] (spField K Cs) := by
  refine F.ok scFd (fun vs H Q E h => ?_) (fun cdv A outer s H vs Q E hr h => ?_)
  · obtain ⟨a, C, d, fs, kd, v, rfl, _⟩ := h
    rfl
  · obtain ⟨a, C, d, fs, kd, v, rfl, er, T, hk, fk, hf, hn, KQ⟩ := h
    refine ⟨_, pss_cons (ps_if (pt_val (pe_callB call_isXt (by rfl) mi boot_isinstance (pa_cons (pv 0) (pa_cons (pe_tup (pa_cons (pe_glob (v := .ref (Cs 1)) (by rfl) c.c1.gl rfl) (pa_cons (pe_glob (v := .ref (Cs 2)) (by rfl) c.c2.gl rfl) (pa_cons (pe_glob (v := .ref (Cs 5)) (by rfl) c.c5.gl rfl) (pa_cons (pe_glob (v := .ref (Cs 9)) (by rfl) c.c9.gl rfl) pa_nil))))) pa_nil)))) (pss_one (ps_ret (pe_getX (pv 0)))) pss_nil)
      (pss_cons (ps_if (pt_val (pe_callB call_isXt (by rfl) mi boot_isinstance (pa_cons (pv 0) (pa_cons (pe_tup (pa_cons (pe_glob (v := .ref (Cs 0)) (by rfl) c.c0.gl rfl) (pa_cons (pe_glob (v := .ref (Cs 3)) (by rfl) c.c3.gl rfl) (pa_cons (pe_glob (v := .ref (Cs 7)) (by rfl) c.c7.gl rfl) pa_nil)))) pa_nil)))) (pss_one (ps_ret (pe_getX (pv 0)))) pss_nil)
      (pss_cons (ps_if (pt_val (pe_callB call_isXt (by rfl) mi boot_isinstance (pa_cons (pv 0) (pa_cons (pe_tup (pa_cons (pe_glob (v := .ref (Cs 4)) (by rfl) c.c4.gl rfl) (pa_cons (pe_glob (v := .ref (Cs 17)) (by rfl) c.c17.gl rfl) (pa_cons (pe_glob (v := .ref (Cs 22)) (by rfl) c.c22.gl rfl) pa_nil)))) pa_nil)))) (pss_one (ps_ret (pe_getX (pv 0)))) pss_nil)
      (pss_cons (ps_if (pt_val (pe_callB call_isXt (by rfl) mi boot_isinstance (pa_cons (pv 0) (pa_cons (pe_tup (pa_cons (pe_glob (v := .ref (Cs 13)) (by rfl) c.c13.gl rfl) (pa_cons (pe_glob (v := .ref (Cs 15)) (by rfl) c.c15.gl rfl) pa_nil))) pa_nil)))) (pss_one (ps_ret (pe_getX (pv 0)))) pss_nil)
      (pss_cons (ps_if (pt_val (pe_callB call_isXt (by rfl) mi boot_isinstance (pa_cons (pv 0) (pa_cons (pe_tup (pa_cons (pe_glob (v := .ref (Cs 6)) (by rfl) c.c6.gl rfl) (pa_cons (pe_glob (v := .ref (Cs 14)) (by rfl) c.c14.gl rfl) (pa_cons (pe_glob (v := .ref (Cs 16)) (by rfl) c.c16.gl rfl) (pa_cons (pe_glob (v := .ref (Cs 18)) (by rfl) c.c18.gl rfl) (pa_cons (pe_glob (v := .ref (Cs 19)) (by rfl) c.c19.gl rfl) (pa_cons (pe_glob (v := .ref (Cs 20)) (by rfl) c.c20.gl rfl) (pa_cons (pe_glob (v := .ref (Cs 21)) (by rfl) c.c21.gl rfl) pa_nil)))))))) pa_nil)))) (pss_one (ps_ret (pe_getX (pv 0)))) pss_nil)
      (pss_one (ps_ret (pe_ifExp (pt_val (pe_callB call_isX (by rfl) mi boot_isinstance (pa_cons (pv 0) (pa_cons (pe_glob (v := .ref (Cs 10)) (by rfl) c.c10.gl rfl) pa_nil)))) (pe_getX (pv 0)) pe_non))))))), ?_⟩
    refine ⟨_, rfl, by show 4 ≤ sizeLine; decide, fun q0 n0 => ?_⟩
    have t0 := same_upd (o := .tup [.ref (Cs 1), .ref (Cs 2), .ref (Cs 5), .ref (Cs 9)]) n0
    have s0 := t0
    refine ⟨a, C, d, fs, q0, _, _, _, rfl, upd_same, (.cons (.own _) (.cons (.own _) (.cons (.own _) (.cons (.own _) .nil)))), T, er_same s0 er, fk.g0, _, rfl, ite2 (fun e => ?_) fun e => ?_⟩
    · have ek := of_decide_eq_true e
      subst ek
      obtain ⟨h1, h2⟩ := hf (by decide)
      exact ⟨_, rfl, a, C, d, fs, v, rfl, T, h2, er_same s0 er, h1, KQ _ s0⟩
    have k0 : kd ≠ 0 := fun z => e (decide_eq_true z)
    generalize upd _ q0 _ = J0 at s0 t0 ⊢
    refine ⟨_, rfl, by show 3 ≤ sizeLine; decide, fun q1 n1 => ?_⟩
    have t1 := same_upd (o := .tup [.ref (Cs 0), .ref (Cs 3), .ref (Cs 7)]) n1
    have s1 := s0.trans t1
    refine ⟨a, C, d, fs, q1, _, _, _, rfl, upd_same, (.cons (.own _) (.cons (.own _) (.cons (.own _) .nil))), T, er_same s1 er, fk.g1, _, rfl, ite2 (fun e => ?_) fun e => ?_⟩
    · have ek := of_decide_eq_true e
      subst ek
      obtain ⟨h1, h2⟩ := hf (by decide)
      exact ⟨_, rfl, a, C, d, fs, v, rfl, T, h2, er_same s1 er, h1, KQ _ s1⟩
    have k1 : kd ≠ 1 := fun z => e (decide_eq_true z)
    generalize upd _ q1 _ = J1 at s1 t1 ⊢
    refine ⟨_, rfl, by show 3 ≤ sizeLine; decide, fun q2 n2 => ?_⟩
    have t2 := same_upd (o := .tup [.ref (Cs 4), .ref (Cs 17), .ref (Cs 22)]) n2
    have s2 := s1.trans t2
    refine ⟨a, C, d, fs, q2, _, _, _, rfl, upd_same, (.cons (.own _) (.cons (.own _) (.cons (.own _) .nil))), T, er_same s2 er, fk.g2, _, rfl, ite2 (fun e => ?_) fun e => ?_⟩
    · have ek := of_decide_eq_true e
      subst ek
      obtain ⟨h1, h2⟩ := hf (by decide)
      exact ⟨_, rfl, a, C, d, fs, v, rfl, T, h2, er_same s2 er, h1, KQ _ s2⟩
    have k2 : kd ≠ 2 := fun z => e (decide_eq_true z)
    generalize upd _ q2 _ = J2 at s2 t2 ⊢
    refine ⟨_, rfl, by show 2 ≤ sizeLine; decide, fun q3 n3 => ?_⟩
    have t3 := same_upd (o := .tup [.ref (Cs 13), .ref (Cs 15)]) n3
    have s3 := s2.trans t3
    refine ⟨a, C, d, fs, q3, _, _, _, rfl, upd_same, (.cons (.own _) (.cons (.own _) .nil)), T, er_same s3 er, fk.g3, _, rfl, ite2 (fun e => ?_) fun e => ?_⟩
    · have ek := of_decide_eq_true e
      subst ek
      obtain ⟨h1, h2⟩ := hf (by decide)
      exact ⟨_, rfl, a, C, d, fs, v, rfl, T, h2, er_same s3 er, h1, KQ _ s3⟩
    have k3 : kd ≠ 3 := fun z => e (decide_eq_true z)
    generalize upd _ q3 _ = J3 at s3 t3 ⊢
    refine ⟨_, rfl, by show 7 ≤ sizeLine; decide, fun q4 n4 => ?_⟩
    have t4 := same_upd (o := .tup [.ref (Cs 6), .ref (Cs 14), .ref (Cs 16), .ref (Cs 18), .ref (Cs 19), .ref (Cs 20), .ref (Cs 21)]) n4
    have s4 := s3.trans t4
    refine ⟨a, C, d, fs, q4, _, _, _, rfl, upd_same, (.cons (.own _) (.cons (.own _) (.cons (.own _) (.cons (.own _) (.cons (.own _) (.cons (.own _) (.cons (.own _) .nil))))))), T, er_same s4 er, fk.g4, _, rfl, ite2 (fun e => ?_) fun e => ?_⟩
    · have ek := of_decide_eq_true e
      subst ek
      obtain ⟨h1, h2⟩ := hf (by decide)
      exact ⟨_, rfl, a, C, d, fs, v, rfl, T, h2, er_same s4 er, h1, KQ _ s4⟩
    have k4 : kd ≠ 4 := fun z => e (decide_eq_true z)
    generalize upd _ q4 _ = J4 at s4 t4 ⊢
    refine ⟨_, rfl, a, C, d, fs, _, _, _, rfl, .own _, T, er_same s4 er, fk.g5, _, rfl, ite2 (fun e => ?_) fun e => ?_⟩
    · have ek := of_decide_eq_true e
      subst ek
      obtain ⟨h1, h2⟩ := hf (by decide)
      exact ⟨_, rfl, a, C, d, fs, v, rfl, T, h2, er_same s4 er, h1, KQ _ s4⟩
    · have k5 : kd ≠ 5 := fun z => e (decide_eq_true z)
      have z := hn (by omega)
      subst z
      exact KQ _ s4
end
end Wb
namespace Wb
open PySem PySem.Spec PyProof.Rows L2 RZ Xk
abbrev sLaw : Stmt := topS 40
abbrev NL : List Str := ["_law_script", "_law_box_here", "_law_number", "_law_text", "_law_my_tie", "_law_some", "_law_k", "_law_word", "_law_e", "_law_due", "_law_families", "_law_my_at"]
def kdOf : Nat → Nat
  | 1 => 0 | 2 => 0 | 5 => 0 | 9 => 0
  | 0 => 1 | 3 => 1 | 7 => 1
  | 4 => 2 | 17 => 2 | 22 => 2
  | 13 => 3 | 15 => 3
  | 6 => 4 | 14 => 4 | 16 => 4 | 18 => 4 | 19 => 4 | 20 => 4 | 21 => 4
  | 10 => 5
  | _ => 6
/-- what the written part says of the classes, one by one -/
structure Facts (K : PySem.W.Frag) (Cs : Nat → Addr) (W M : Addr) : Prop where
  kk : ∀ i j, i < 24 → j < 24 → PySem.W.kitOne K (.ref (Cs i)) (.ref (Cs j)) = some (decide (i = j))
  fk : ∀ i, i < 24 → Fk K Cs (Cs i) (kdOf i)
  ex : ∀ i, i < 24 → Exk K (Cs i)
  nw : ∀ i, i < 24 → PySem.W.findIn K (.ref (Cs i)) "word" = some none
  nf : ∀ i, i < 24 → kdOf i < 6 → PySem.W.findIn K (.ref (Cs i)) (fnm (kdOf i)) = some none
  fW : ∀ i, i < 24 → PySem.W.kitOne K (.ref (Cs i)) (.ref W) = some (decide (i < 18))
  fM : ∀ i, i < 24 → PySem.W.kitOne K (.ref (Cs i)) (.ref M) = some (decide (17 < i ∧ i < 23))
  fV : ∀ i, i < 24 → PySem.W.kitOne K (.ref (Cs i)) (.type "ValueError") = some (decide (i < 18))
  fL : ∀ i, i < 24 → PySem.W.kitOne K (.ref (Cs i)) (.type "LookupError") = some (decide (17 < i))
  fI : ∀ i, i < 24 → PySem.W.kitOne K (.ref (Cs i)) (.type "IndexError") = some (decide (i = 23))
def due1 (n : V) (z : Str) (t : V) (i : Nat) : V := if inV (.int i) [.int 4, .int 17, .int 22] = true then t else if inV (.int i) [.int 6, .int 10, .int 14, .int 16, .int 18, .int 19, .int 20, .int 21] = true then .str z else n
def due2 (n : V) (z : Str) (t : V) (i : Nat) : V := if inV (.int i) [.int 8, .int 11, .int 12, .int 23] = true then .non else due1 n z t i
theorem spec_at (Cs : Nat → Addr) (n : V) (z : Str) (t : V) (i : Nat) (hi : i < 24) : ∃ w fs, (specs Cs n z t)[i]? = some (w, Cs i, fs) ∧ fs.lookup ("word" : Str) = some (.str w) ∧ (kdOf i < 6 → fs.lookup (fnm (kdOf i)) = some (due2 n z t i)) ∧ (kdOf i = 6 → due2 n z t i = .non) := by
  have h : i = 0 ∨ i = 1 ∨ i = 2 ∨ i = 3 ∨ i = 4 ∨ i = 5 ∨ i = 6 ∨ i = 7 ∨ i = 8 ∨ i = 9 ∨ i = 10 ∨ i = 11 ∨ i = 12 ∨ i = 13 ∨ i = 14 ∨ i = 15 ∨ i = 16 ∨ i = 17 ∨ i = 18 ∨ i = 19 ∨ i = 20 ∨ i = 21 ∨ i = 22 ∨ i = 23 := by omega
  rcases h with rfl | rfl | rfl | rfl | rfl | rfl | rfl | rfl | rfl | rfl | rfl | rfl | rfl | rfl | rfl | rfl | rfl | rfl | rfl | rfl | rfl | rfl | rfl | rfl
  all_goals exact ⟨_, _, rfl, rfl, fun z => (by first | rfl | exact absurd z (by decide)), fun z => (by first | rfl | exact absurd z (by decide))⟩
theorem due_plain {n : Int} {z : Str} {t : V} {i : Nat} : due2 (.int n) z t i = .non ∨ due2 (.int n) z t i = t ∨ due2 (.int n) z t i = .str z ∨ due2 (.int n) z t i = .int n := by
  unfold due2 due1
  split
  · exact .inl rfl
  · split
    · exact .inr (.inl rfl)
    · split
      · exact .inr (.inr (.inl rfl))
      · exact .inr (.inr (.inr rfl))
theorem dp_bools {K : PySem.W.Frag} {H : Hp} : ∀ bs : List Bool, DpAll K H (bs.map V.bl) (bs.map PyData.bool)
  | [] => .nil
  | b :: r => .cons (.bl b) (dp_bools r)
theorem lay_bools : ∀ bs : List Bool, PyData.canLayAll0 (bs.map PyData.bool) = true
  | [] => rfl
  | b :: r => by
    show (PyData.canLay0 (PyData.bool b) && PyData.canLayAll0 (r.map PyData.bool)) = true
    rw [lay_bools r]
    rfl
theorem eqv_bools (bs : List Bool) : PyData.eqv (.list (bs.map .bool)) (.list (bs.map .bool)) = true := SeqAt.eqv_refl _ (lay_bools bs)
/-- two lists of the same truth values are not unlike -/
theorem ne_bools {K : PySem.W.Frag} {H : Hp} {p q : Addr} {bs : List Bool} {Q : VK} (h1 : H p = some (.lst (bs.map V.bl))) (h2 : H q = some (.lst (bs.map V.bl))) (sh : SeqAt.shaped (.list (bs.map .bool)) = true) (h : Q (.bl false) H) : rNeD K (.ref p) (.ref q) H Q := by
  refine ⟨.list (bs.map .bool), .list (bs.map .bool), .lst (SqL.of h1) (dp_bools bs), .lst (SqL.of h2) (dp_bools bs), sh, sh, ?_⟩
  rw [eqv_bools]
  exact h
theorem eb_lt {σ : L2.St} {H : Hp} {j i : Nat} {m : Int} (hv : σ[j]? = some (some (.int i))) : EB (tOp (rI0 fun a b => .bl (decide (a < b))) (tVar j) (tC (.int m))) σ H (decide ((i : Int) < m)) := fun Q q => ⟨_, hv, _, _, rfl, rfl, q⟩
theorem eb_gt {σ : L2.St} {H : Hp} {j i : Nat} {m : Int} (hv : σ[j]? = some (some (.int i))) : EB (tOp (rI0 fun a b => .bl (decide (b < a))) (tVar j) (tC (.int m))) σ H (decide (m < (i : Int))) := fun Q q => ⟨_, hv, _, _, rfl, rfl, q⟩
theorem eb_chain {σ : L2.St} {H : Hp} {j i : Nat} {m k : Int} (hv : σ[j]? = some (some (.int i))) : EB (tChain (rI0 fun a b => .bl (decide (a < b))) (rI0 fun a b => .bl (decide (a < b))) (tC (.int m)) (tVar j) (tC (.int k))) σ H (decide (m < (i : Int) ∧ (i : Int) < k)) := fun Q q => by
  refine ⟨_, hv, _, _, rfl, rfl, _, rfl, ?_⟩
  refine ite2 (fun e => ?_) (fun e => ?_)
  · have e1 : m < (i : Int) := of_decide_eq_true e
    refine ⟨_, _, rfl, rfl, ?_⟩
    have z : decide (m < (i : Int) ∧ (i : Int) < k) = decide ((i : Int) < k) := by
      by_cases h : (i : Int) < k
      · rw [decide_eq_true h, decide_eq_true ⟨e1, h⟩]
      · rw [decide_eq_false h, decide_eq_false fun x => h x.2]
    show Q (V.bl (decide ((i : Int) < k))) H
    rw [← z]
    exact q
  · have z : decide (m < (i : Int) ∧ (i : Int) < k) = false := decide_eq_false fun x => e (decide_eq_true x.1)
    rw [z] at q
    exact q
theorem dec_int {i m : Nat} : decide (V.int (i : Int) = V.int (m : Int)) = decide (i = m) := by
  by_cases h : i = m
  · rw [h, decide_eq_true rfl, decide_eq_true rfl]
  · rw [decide_eq_false h, decide_eq_false]
    intro z
    have := V.int.inj z
    omega
theorem seq_par3 {i j l : Nat} {ta : TA} {rest : TS} {D : Ends} {σ : L2.St} {H : Hp} (h : ta σ H fun vs H1 => ∃ u v w, vs = [u, v, w] ∧ rest D (((σ.set i (some u)).set j (some v)).set l (some w)) H1) : tSeq (tPar3 i j l ta) rest D σ H := h
section
variable {P : Program} {w : World} {K : PySem.W.Frag} {mg : Str → Option Value} {base : Heap}
def spLaw (K : PySem.W.Frag) : Sp := fun vs H Q _ => ∃ (a : Addr) (ns : List Int), vs = [.ref a] ∧ SqL K H a (ns.map V.int) ∧ ns.length ≤ 63 ∧ ∀ H', Q (.bl true) H'
theorem scLw : FnScope NL ["_law_script"] (defScope sLaw) := ⟨rfl, rfl, rfl, by decide +kernel, rfl, by decide +kernel, by decide +kernel⟩
structure Bl (mg : Str → Option Value) : Prop where
  len : mg "len" = none
  range : mg "range" = none
  isi : mg "isinstance" = none
  vE : mg "ValueError" = none
  lE : mg "LookupError" = none
  iE : mg "IndexError" = none
set_option maxHeartbeats 8000000 in
theorem ok_law {f fB fT fN fA fL fS fD fG : Addr} {fd dB dT dN dA dL dS dD dG : FuncData} {Cs : Nat → Addr} {W M : Addr} (F : Fun K "law" "law" sLaw f fd) (b : Bl mg) (fa : Facts K Cs W M) (c : Cls24 P w K mg base Cs) (gW : mg "WebError" = some (.ref W)) (gM : mg "Missing" = some (.ref M))
    (oB : Df P w K mg base 1 "_law_box" ["_law_script"] (spBox K) fB dB) (oT : Df P w K mg base 1 "_law_take" ["_law_box_here", "_law_many"] spTake fT dT) (oN : Df P w K mg base 3 "_law_name" ["_law_box_here"] spName fN dN) (oA : Df P w K mg base 4 "_law_arrow" ["_law_box_here", "_law_many"] spArrow fA dA)
    (oL : Df P w K mg base 4 "_law_all" ["_law_number", "_law_text", "_law_my_tie"] (spAll Cs) fL dL) (oS : Df P w K mg base 3 "_law_same" ["_law_found", "_law_due"] (spSame K 2) fS dS) (oD : Df P w K mg base 1 "_law_field" ["_law_e"] (spField K Cs) fD dD) (oG : Df P w K mg base 1 "_law_flags" ["_law_e"] (spFlags K Cs) fG dG) :
    FnOk P w K mg base CX0 5 f fd ["_law_script"] (spLaw K) := by
  refine F.ok scLw (fun vs H Q E h => ?_) (fun cdv A outer s H vs Q E hr h => ?_)
  · obtain ⟨a, ns, rfl, _⟩ := h
    rfl
  · obtain ⟨a, ns, rfl, hS, hlen, KQ⟩ := h
    have hu : (A.deeper (envOfC "law" (defScope sLaw) s.heap.objs.size f cdv)).units + 64 < cLine := by
      have := hr.un
      omega
    have ml := b.len
    refine ⟨_, pss_cons (ps_set (i := 1) scLw.nd rfl (.inl rfl) (pe_call oB.ok (hr.mono (by decide)) (by rfl) oB.gl oB.kp oB.bd .nil pass0 (pa_cons (pv 0) pa_nil)))
      (pss_cons (ps_par3 (i := 2) (j := 3) (l := 4) rfl scLw.nd rfl rfl rfl (by decide) (by decide) (by decide) rfl rfl rfl
        (pa_cons (pe_call oT.ok (hr.mono (by decide)) (by rfl) oT.gl oT.kp oT.bd .nil pass0 (pa_cons (pv 1) (pa_cons (pe_op op_pow pe_int pe_int) pa_nil)))
          (pa_cons (pe_call oN.ok (hr.mono (by decide)) (by rfl) oN.gl oN.kp oN.bd .nil pass0 (pa_cons (pv 1) pa_nil))
          (pa_cons (pe_call oA.ok hr (by rfl) oA.gl oA.kp oA.bd .nil pass0 (pa_cons (pv 1) (pa_cons pe_int pa_nil))) pa_nil))) (by rfl))
      (pss_cons (ps_set (i := 5) scLw.nd rfl (.inl rfl) (pe_call oL.ok hr (by rfl) oL.gl oL.kp oL.bd .nil pass0 (pa_cons (pv 2) (pa_cons (pv 3) (pa_cons (pv 4) pa_nil)))))
      (pss_cons (ps_for PassesOwn.never rfl (pi_range1 rfl b.range (pa_cons (pe_callB call_len_seq (by rfl) ml PySem.boot_len (pa_cons (pv 5) pa_nil)) pa_nil)) (pg_name (i := 6) scLw.nd rfl (.inr rfl))
        (pss_cons (ps_asg (pe_ix ix_list (pv 5) (pv 6) (fun _ _ => rfl)) (pg_tup rfl (pgs_cons (pg_name (i := 7) scLw.nd rfl (.inl rfl)) (pgs_cons (pg_name (i := 8) scLw.nd rfl (.inl rfl)) pgs_nil))))
        (C8.pss_cut (ps_set (i := 9) scLw.nd rfl (.inl rfl) (pe_ifExp (pt_cmpR op_in_seq (pv 6) (pe_tup (pa_cons pe_int (pa_cons pe_int (pa_cons pe_int pa_nil)))) (by rfl)) (pv 4)
            (pe_ifExp (pt_cmpR op_in_seq (pv 6) (pe_tup (pa_cons pe_int (pa_cons pe_int (pa_cons pe_int (pa_cons pe_int (pa_cons pe_int (pa_cons pe_int (pa_cons pe_int (pa_cons pe_int pa_nil))))))))) (by rfl)) (pv 3) (pv 2))))
        (C8.pss_cut (ps_set (i := 9) scLw.nd rfl (.inl rfl) (pe_ifExp (pt_cmpR op_in_seq (pv 6) (pe_tup (pa_cons pe_int (pa_cons pe_int (pa_cons pe_int (pa_cons pe_int pa_nil))))) (by rfl)) pe_non (pv 9)))
        (C8.pss_cut (ps_if (PW.pt (pw_or (pt_not (pt_val (pe_call oS.ok (hr.mono (by decide)) (by rfl) oS.gl oS.kp oS.bd .nil pass0 (pa_cons (pe_lst (pa_cons (pe_getX (pv 8)) (pa_cons (pe_call oD.ok (hr.mono (by decide)) (by rfl) oD.gl oD.kp oD.bd .nil pass0 (pa_cons (pv 8) pa_nil)) pa_nil))) (pa_cons (pe_lst (pa_cons (pv 7) (pa_cons (pv 9) pa_nil))) pa_nil)))))
            (pw_or1 (pt_cmpR (op_neD hu) (pe_call oG.ok (hr.mono (by decide)) (by rfl) oG.gl oG.kp oG.bd .nil pass0 (pa_cons (pv 8) pa_nil))
              (pe_lc (own := [("_law_my_at", 11)]) (g := gName 11) (tt := tYes) rfl scLw.nd (pi_range1 rfl b.range (pa_cons pe_int pa_nil)) (blkOk_by (N := NL) (sc := defScope sLaw) (by decide +kernel)) (fun _ _ _ _ _ => pg_name (i := 11) scLw.nd rfl (Or.inl rfl)) (fun _ _ _ _ _ => pts_nil)
                (fun _ _ _ _ _ => pe_cmpR op_eq (pv 11) (pv 6) (nomark _))) (nomark _))))) (pss_one ps_never) pss_nil)
        (pss_cons (ps_set (i := 10) scLw.nd rfl (.inl rfl) (pe_lst (pa_cons (pe_callB call_isX (by rfl) b.isi boot_isinstance (pa_cons (pv 8) (pa_cons (pe_glob (v := .ref W) (by rfl) gW rfl) pa_nil)))
            (pa_cons (pe_callB call_isX (by rfl) b.isi boot_isinstance (pa_cons (pv 8) (pa_cons (pe_glob (v := .ref M) (by rfl) gM rfl) pa_nil)))
            (pa_cons (pe_callB call_isX (by rfl) b.isi boot_isinstance (pa_cons (pv 8) (pa_cons (pe_bltn (v := .ty "ValueError") (by rfl) b.vE (by decide +kernel) rfl) pa_nil)))
            (pa_cons (pe_callB call_isX (by rfl) b.isi boot_isinstance (pa_cons (pv 8) (pa_cons (pe_bltn (v := .ty "LookupError") (by rfl) b.lE (by decide +kernel) rfl) pa_nil))) pa_nil))))))
        (pss_one (ps_if (PW.pt (pw_or (pt_cmpR (op_neD hu) (pv 10) (pe_lst (pa_cons (pe_cmpR op_lt (pv 6) pe_int (nomark _)) (pa_cons (pe_chain op_lt op_lt pe_int (pv 6) pe_int) (pa_cons (pe_cmpR op_lt (pv 6) pe_int (nomark _)) (pa_cons (pe_cmpR op_gt (pv 6) pe_int (nomark _)) pa_nil))))) (nomark _))
            (pw_or1 (pt_cmpR op_ne (pe_callB call_isX (by rfl) b.isi boot_isinstance (pa_cons (pv 8) (pa_cons (pe_bltn (v := .ty "IndexError") (by rfl) b.iE (by decide +kernel) rfl) pa_nil))) (pe_cmpR op_eq (pv 6) pe_int (nomark _)) (nomark _))))) (pss_one ps_never) pss_nil))))))))
      (pss_one (ps_ret (pe_cmpR op_eq (pe_callB call_len_seq (by rfl) ml PySem.boot_len (pa_cons (pv 5) pa_nil)) pe_int (nomark _))))))), ?_⟩
    refine seq_set ⟨_, rfl, a, ns, rfl, hS, hlen, fun bx q H1 nb B1 s1 => ?_⟩
    refine seq_par3 ⟨_, rfl, 10, 20, rfl, rfl, ⟨by decide, by decide, by decide⟩, bx, q, _, rfl, B1, by decide, by decide, fun n H2 n0 n1 B2 k2 => ?_⟩
    refine ⟨_, rfl, bx, q, rfl, B2, fun z H3 B3 x3 => ?_⟩
    refine ⟨_, rfl, bx, q, 9, rfl, B3, by decide, by decide, fun pt cc x y H4 np npb et hc x0 x1 y0 y1 B4 x4 => ⟨_, _, _, rfl, ?_⟩⟩
    refine seq_set ⟨_, rfl, _, rfl, _, rfl, .int n, z, .ref pt, rfl, fun pa us H5 s5 na ea l24 rr => ?_⟩
    have et5 : H5 pt = some (.tup [.str cc, .int x, .int y]) := s5 _ _ et
    refine ⟨_, rfl, pa, us, rfl, .inl (SqL.of ea), (us.length : Int), rfl, by omega, by omega, for_range (lo := 0) (n := ((us.length : Int)).toNat) (fun i σ H' => ∃ y6 y7 y8 y9 y10 y11, σ = [some (.ref a), some (.ref bx), some (.int n), some (.str z), some (.ref pt), some (.ref pa), y6, y7, y8, y9, y10, y11] ∧ Same H5 H') ?_ ?_ ?_⟩
    · exact ⟨_, _, _, _, _, _, rfl, Same.refl _⟩
    · rintro i σ H' hi ⟨y6, y7, y8, y9, y10, y11, rfl, sm⟩
      have hi24 : i < 24 := by omega
      have hiu : i < us.length := by omega
      obtain ⟨w, fs, hsp, hw, hf, hn⟩ := spec_at Cs (.int n) z (.ref pt) i hi24
      obtain ⟨t, e, d, ev, ht, er⟩ := paired_at rr i _ _ (List.getElem?_eq_getElem hiu) hsp
      have T := fa.ex i hi24
      dsimp only at ht er
      rw [Int.zero_add]
      refine ⟨_, rfl, _, rfl, pa, us, (i : Int), us[i], rfl, rfl, SqL.of (sm _ _ ea), atI_nat (List.getElem?_eq_getElem hiu), t, [.str w, .ref e], ev, SqT.of (sm _ _ ht), rfl, .str w, [.ref e], rfl, .ref e, [], rfl, rfl, ?_⟩
      -- due
      refine ⟨fun σ' J => σ' = [some (.ref a), some (.ref bx), some (.int n), some (.str z), some (.ref pt), some (.ref pa), some (.int i), some (.str w), some (.ref e), some (due1 (.int n) z (.ref pt) i), y10, y11] ∧ Same H5 J, ?_, ?_⟩
      · refine ⟨_, rfl, by show 3 ≤ sizeLine; decide, fun q1 nq1 => ⟨q1, _, rfl, .inr (SqT.of upd_same), rfl, rfl, _, rfl, ite2 (fun ec => ?_) fun ec => ?_⟩⟩
        · refine ⟨_, rfl, ?_, sm.trans (same_upd nq1)⟩
          rw [show due1 (.int n) z (.ref pt) i = .ref pt from if_pos ec]
          rfl
        · refine ⟨_, rfl, by show 8 ≤ sizeLine; decide, fun q2 nq2 => ⟨q2, _, rfl, .inr (SqT.of upd_same), rfl, rfl, _, rfl, ite2 (fun e2 => ?_) fun e2 => ?_⟩⟩
          · refine ⟨_, rfl, ?_, sm.trans ((same_upd nq1).trans (same_upd nq2))⟩
            rw [show due1 (.int n) z (.ref pt) i = .str z from (if_neg ec).trans (if_pos e2)]
            rfl
          · refine ⟨_, rfl, ?_, sm.trans ((same_upd nq1).trans (same_upd nq2))⟩
            rw [show due1 (.int n) z (.ref pt) i = .int n from (if_neg ec).trans (if_neg e2)]
            rfl
      · rintro σ' J ⟨rfl, sJ⟩
        refine ⟨fun σ' J => σ' = [some (.ref a), some (.ref bx), some (.int n), some (.str z), some (.ref pt), some (.ref pa), some (.int i), some (.str w), some (.ref e), some (due2 (.int n) z (.ref pt) i), y10, y11] ∧ Same H5 J, ?_, ?_⟩
        · refine ⟨_, rfl, by show 4 ≤ sizeLine; decide, fun q1 nq1 => ⟨q1, _, rfl, .inr (SqT.of upd_same), rfl, rfl, _, rfl, ite2 (fun ec => ?_) fun ec => ?_⟩⟩
          · refine ⟨?_, sJ.trans (same_upd nq1)⟩
            rw [show due2 (.int n) z (.ref pt) i = .non from if_pos ec]
            rfl
          · refine ⟨_, rfl, ?_, sJ.trans (same_upd nq1)⟩
            rw [show due2 (.int n) z (.ref pt) i = due1 (.int n) z (.ref pt) i from if_neg ec]
            rfl
        · rintro σ' L ⟨rfl, sL⟩
          refine ⟨fun σ' J => σ' = [some (.ref a), some (.ref bx), some (.int n), some (.str z), some (.ref pt), some (.ref pa), some (.int i), some (.str w), some (.ref e), some (due2 (.int n) z (.ref pt) i), y10, y11] ∧ Same H5 J, ?_, ?_⟩
          · have er1 := er_same sL er
            -- the same word, the same field
            refine ⟨_, rfl, e, Cs i, d, fs, .str w, rfl, T, fa.nw i hi24, er1, hw, _, rfl, e, Cs i, d, fs, kdOf i, due2 (.int n) z (.ref pt) i, rfl, er1, T, ?_, fa.fk i hi24, fun hk => ⟨hf hk, fa.nf i hi24 hk⟩, hn, fun J1 sJ1 => ?_⟩
            · unfold kdOf
              split <;> decide
            refine ⟨by show 2 ≤ sizeLine; decide, fun p1 np1 => ⟨_, rfl, _, rfl, by show 2 ≤ sizeLine; decide, fun p2 np2 => ?_⟩⟩
            have sA : Same L (upd (upd J1 p1 (.lst [.str w, due2 (.int n) z (.ref pt) i])) p2 (.lst [.str w, due2 (.int n) z (.ref pt) i])) := sJ1.trans ((same_upd np1).trans (same_upd np2))
            refine ⟨.ref p1, .ref p2, rfl, .inr ⟨p1, p2, _, _, rfl, rfl, .inl ⟨SqL.of (same_upd np2 _ _ upd_same), SqL.of upd_same⟩, by show 2 ≤ 100000; decide, .cons (.inl ⟨rfl, rfl⟩) (.cons ?_ .nil)⟩, fun J2 sJ2 => ?_⟩
            · rcases due_plain (n := n) (z := z) (t := .ref pt) (i := i) with hd | hd | hd | hd
              · rw [hd]
                exact .inl ⟨rfl, rfl⟩
              · have tp := sA _ _ (sL _ _ et5)
                rw [hd] at tp ⊢
                exact .inr ⟨pt, pt, [.str cc, .int x, .int y], [.str cc, .int x, .int y], rfl, rfl, .inr ⟨SqT.of tp, SqT.of tp⟩, by show 3 ≤ 100000; decide, .cons ⟨rfl, rfl⟩ (.cons ⟨rfl, rfl⟩ (.cons ⟨rfl, rfl⟩ .nil))⟩
              · rw [hd]
                exact .inl ⟨rfl, rfl⟩
              · rw [hd]
                exact .inl ⟨rfl, rfl⟩
            refine ⟨true, rfl, iteF ?_⟩
            have s6 := (sL.trans sA).trans sJ2
            -- the flags
            refine ⟨_, rfl, e, Cs i, d, fs, i, rfl, er_same s6 er, T, fun j hj => fa.kk i j hi24 hj, fun p3 J3 sJ3 n3 e3 => ?_⟩
            refine ⟨24, rfl, by decide, by decide, fun D nD => ?_⟩
            refine lc_range (lo := 0) (n := (24 : Int).toNat) (fun j J => J D = some (.lst (((List.range j).map fun m => decide (i = m)).map V.bl)) ∧ Same J3 J) ⟨upd_same, same_upd nD⟩ ?_ ?_
            · rintro j J hj ⟨hD, sK⟩
              refine ⟨rfl, ?_⟩
              dsimp only [tYes]
              refine iteT ⟨_, rfl, _, rfl, rfl, ?_⟩
              rw [Int.zero_add]
              refine ⟨_, hD, by simp only [List.length_map, List.length_range]; exact small1000 (by omega), ?_, fun c o ec => ?_⟩
              · rw [upd_same, List.range_succ, List.map_append, List.map_append]
                have z1 : decide (V.int (j : Int) = V.int (i : Int)) = decide (i = j) := by
                  rw [dec_int]
                  by_cases hz : j = i
                  · rw [decide_eq_true hz, decide_eq_true hz.symm]
                  · rw [decide_eq_false hz, decide_eq_false fun x => hz x.symm]
                rw [z1]
                rfl
              · rw [upd_ne (ne_of_none ec nD)]
                exact sK _ _ ec
            · rintro J ⟨hD, sK⟩
              refine ne_bools (bs := flg i) (sK _ _ e3) hD rfl ?_
              exact ⟨false, rfl, iteF ⟨rfl, (s6.trans sJ3).trans sK⟩⟩
          · rintro σ' J ⟨rfl, sJ'⟩
            have er1 := er_same sJ' er
            refine seq_set (lst4 (isq (by rfl) T er1 (fa.fW i hi24)) (isq (by rfl) T er1 (fa.fM i hi24)) (isqT (by rfl) T er1 (fa.fV i hi24)) (isqT (by rfl) T er1 (fa.fL i hi24)) fun p4 n4 => ?_)
            have s7 : Same J (upd J p4 (.lst ([decide (i < 18), decide (17 < i ∧ i < 23), decide (i < 18), decide (17 < i)].map V.bl))) := same_upd n4
            have e7 : (upd J p4 (.lst ([decide (i < 18), decide (17 < i ∧ i < 23), decide (i < 18), decide (17 < i)].map V.bl))) p4 = some (.lst ([decide (i < 18), decide (17 < i ∧ i < 23), decide (i < 18), decide (17 < i)].map V.bl)) := upd_same
            generalize upd J p4 (.lst ([decide (i < 18), decide (17 < i ∧ i < 23), decide (i < 18), decide (17 < i)].map V.bl)) = J7 at s7 e7 ⊢
            refine ⟨_, rfl, lst4 (eb_lt (i := i) (by rfl)) (eb_chain (i := i) (by rfl)) (eb_lt (i := i) (by rfl)) (eb_gt (i := i) (by rfl)) fun p5 n5 => ?_⟩
            have z1 : [decide ((i : Int) < 18), decide ((17 : Int) < i ∧ (i : Int) < 23), decide ((i : Int) < 18), decide ((17 : Int) < i)] = [decide (i < 18), decide (17 < i ∧ i < 23), decide (i < 18), decide (17 < i)] := by
              rw [show decide ((i : Int) < 18) = decide (i < 18) from decide_eq_decide.mpr (by omega), show decide ((17 : Int) < i ∧ (i : Int) < 23) = decide (17 < i ∧ i < 23) from decide_eq_decide.mpr (by omega), show decide ((17 : Int) < i) = decide (17 < i) from decide_eq_decide.mpr (by omega)]
            rw [z1]
            refine ne_bools (bs := [decide (i < 18), decide (17 < i ∧ i < 23), decide (i < 18), decide (17 < i)]) (same_upd n5 _ _ e7) upd_same rfl ?_
            refine ⟨false, rfl, iteF ?_⟩
            refine isqT (by rfl) T (er_same (s7.trans (same_upd n5)) er1) (fa.fI i hi24) _ ⟨_, rfl, rfl, rfl, ?_⟩
            rw [show decide (V.int (i : Int) = V.int 23) = decide (i = 23) from dec_int (m := 23)]
            refine ⟨_, rfl, iteNS rfl ?_⟩
            exact ⟨_, _, _, _, _, _, rfl, (sJ'.trans s7).trans (same_upd n5)⟩
    · rintro σ H' ⟨y6, y7, y8, y9, y10, y11, rfl, sm⟩
      refine ⟨_, rfl, pa, us, rfl, .inl (SqL.of (sm _ _ ea)), rfl, ?_⟩
      rw [l24]
      exact KQ _
end
end Wb
namespace Wb
open PySem PySem.Spec PyProof.Rows L2 RZ Xk
/-! ### what the top has written of the classes -/
def bmOf (i : Nat) : List Value := if i < 18 then [.type "ValueError", .type "Exception", .type "BaseException", .type "object"] else if i < 23 then [.type "LookupError", .type "Exception", .type "BaseException", .type "object"] else [.type "IndexError", .type "LookupError", .type "Exception", .type "BaseException", .type "object"]
def nwOf (i : Nat) : String := if i < 18 then "ValueError.__new__" else if i < 23 then "LookupError.__new__" else "IndexError.__new__"
def kO (K : PySem.W.Frag) (C : Addr) (v : Value) (b : Bool) : Bool := decide (PySem.W.kitOne K (.ref C) v = some b)
def kA (K : PySem.W.Frag) (C : Addr) (vs : List Value) (b : Bool) : Bool := decide (PySem.W.kitAny K (.ref C) vs = some b)
def fI (K : PySem.W.Frag) (C : Addr) (x : Str) (v : Option Value) : Bool := decide (PySem.W.findIn K (.ref C) x = some v)
def chE (K : PySem.W.Frag) (C : Addr) (i : Nat) : List Bool := [PySem.W.excInitIn K C (bmOf i) (nwOf i), PySem.W.excOver K C (bmOf i), fI K C "__setattr__" (some (.builtin "object.__setattr__")), PySem.W.hasDictIn K C, fI K C "__getattribute__" (some (.builtin "BaseException.__getattribute__")), fI K C "__getattr__" none,
  decide (PySem.W.subIn K (.ref C) (.type "BaseException") = some true), PySem.W.keepIn K (.ref C), fI K C "__class__" (some (.builtin "object.__class__")), decide (PySem.W.specialIn K (.builtin "object.__class__") "__get__" = some (some (.builtin "getset_descriptor.__get__"))),
  decide (PySem.W.takesIn K (.builtin "object.__class__") = some true), decide (PySem.W.mroIn K C (.type "object") = some true)]
def chF (K : PySem.W.Frag) (cs : Nat → Addr) (W M : Addr) (i : Nat) : List Bool := [fI K (cs i) "word" none, (decide (¬ kdOf i < 6) || fI K (cs i) (fnm (kdOf i)) none),
  kA K (cs i) [.ref (cs 1), .ref (cs 2), .ref (cs 5), .ref (cs 9)] (decide (kdOf i = 0)),
  kA K (cs i) [.ref (cs 0), .ref (cs 3), .ref (cs 7)] (decide (kdOf i = 1)),
  kA K (cs i) [.ref (cs 4), .ref (cs 17), .ref (cs 22)] (decide (kdOf i = 2)),
  kA K (cs i) [.ref (cs 13), .ref (cs 15)] (decide (kdOf i = 3)),
  kA K (cs i) [.ref (cs 6), .ref (cs 14), .ref (cs 16), .ref (cs 18), .ref (cs 19), .ref (cs 20), .ref (cs 21)] (decide (kdOf i = 4)),
  kO K (cs i) (.ref (cs 10)) (decide (kdOf i = 5)), kO K (cs i) (.ref W) (decide (i < 18)), kO K (cs i) (.ref M) (decide (17 < i ∧ i < 23)), kO K (cs i) (.type "ValueError") (decide (i < 18)), kO K (cs i) (.type "LookupError") (decide (17 < i)), kO K (cs i) (.type "IndexError") (decide (i = 23))]
def chG (K : PySem.W.Frag) (cs : Nat → Addr) (i : Nat) : List Bool := (List.range 24).map fun j => kO K (cs i) (.ref (cs j)) (decide (i = j))
def chk (K : PySem.W.Frag) (cs : Nat → Addr) (W M : Addr) : Bool := (List.range 24).all fun i => (chE K (cs i) i).all id && ((chF K cs W M i).all id && (chG K cs i).all id)
theorem all_get {l : List Bool} (h : l.all id = true) (n : Nat) {b : Bool} (e : l[n]? = some b) : b = true := List.all_eq_true.mp h b (List.mem_of_getElem? e)
theorem chk_at {K : PySem.W.Frag} {cs : Nat → Addr} {W M : Addr} (h : chk K cs W M = true) (i : Nat) (hi : i < 24) : (chE K (cs i) i).all id = true ∧ (chF K cs W M i).all id = true ∧ (chG K cs i).all id = true := by
  have z := List.all_eq_true.mp h i (List.mem_range.mpr hi)
  rw [Bool.and_eq_true, Bool.and_eq_true] at z
  exact z
theorem base_at (i : Nat) : ∃ (B iI : String), ExcBaseFacts B (nwOf i) iI (bmOf i) ∧ StoreFacts B (bmOf i) "object.__setattr__" "object" := by
  unfold nwOf bmOf
  split
  · exact ⟨_, _, F.excBase_ValueError, F.store_ValueError⟩
  · split
    · exact ⟨_, _, F.excBase_LookupError, F.store_LookupError⟩
    · exact ⟨_, _, F.excBase_IndexError, F.store_IndexError⟩
theorem exk_at {K : PySem.W.Frag} {C : Addr} {i : Nat} (h : (chE K C i).all id = true) : Exk K C := by
  obtain ⟨B, iI, FB, SF⟩ := base_at i
  exact ⟨⟨B, nwOf i, iI, bmOf i, FB, SF, all_get h 0 rfl, all_get h 1 rfl⟩, of_decide_eq_true (all_get h 2 rfl), all_get h 3 rfl, of_decide_eq_true (all_get h 4 rfl), of_decide_eq_true (all_get h 5 rfl), of_decide_eq_true (all_get h 6 rfl), all_get h 7 rfl, of_decide_eq_true (all_get h 8 rfl),
    of_decide_eq_true (all_get h 9 rfl), of_decide_eq_true (all_get h 10 rfl), of_decide_eq_true (all_get h 11 rfl)⟩
theorem facts_of {K : PySem.W.Frag} {cs : Nat → Addr} {W M : Addr} (h : chk K cs W M = true) : Facts K cs W M where
  kk := fun i j hi hj => of_decide_eq_true (all_get (chk_at h i hi).2.2 j (by
    unfold chG kO
    rw [List.getElem?_map, List.getElem?_range hj]
    rfl))
  fk := fun i hi => ⟨of_decide_eq_true (all_get (chk_at h i hi).2.1 2 rfl), of_decide_eq_true (all_get (chk_at h i hi).2.1 3 rfl), of_decide_eq_true (all_get (chk_at h i hi).2.1 4 rfl), of_decide_eq_true (all_get (chk_at h i hi).2.1 5 rfl), of_decide_eq_true (all_get (chk_at h i hi).2.1 6 rfl), of_decide_eq_true (all_get (chk_at h i hi).2.1 7 rfl)⟩
  ex := fun i hi => exk_at (chk_at h i hi).1
  nw := fun i hi => of_decide_eq_true (all_get (chk_at h i hi).2.1 0 rfl)
  nf := fun i hi hk => by
    have z := all_get (chk_at h i hi).2.1 1 rfl
    rw [Bool.or_eq_true] at z
    rcases z with z | z
    · exact absurd hk (of_decide_eq_true z)
    · exact of_decide_eq_true z
  fW := fun i hi => of_decide_eq_true (all_get (chk_at h i hi).2.1 8 rfl)
  fM := fun i hi => of_decide_eq_true (all_get (chk_at h i hi).2.1 9 rfl)
  fV := fun i hi => of_decide_eq_true (all_get (chk_at h i hi).2.1 10 rfl)
  fL := fun i hi => of_decide_eq_true (all_get (chk_at h i hi).2.1 11 rfl)
  fI := fun i hi => of_decide_eq_true (all_get (chk_at h i hi).2.1 12 rfl)
abbrev csOf (C0 C1 C2 C3 C4 C5 C6 C7 C8 C9 C10 C11 C12 C13 C14 C15 C16 C17 C18 C19 C20 C21 C22 C23 : Addr) : Nat → Addr := fun n => match n with | 0 => C0 | 1 => C1 | 2 => C2 | 3 => C3 | 4 => C4 | 5 => C5 | 6 => C6 | 7 => C7 | 8 => C8 | 9 => C9 | 10 => C10 | 11 => C11 | 12 => C12 | 13 => C13 | 14 => C14 | 15 => C15 | 16 => C16 | 17 => C17 | 18 => C18 | 19 => C19 | 20 => C20 | 21 => C21 | 22 => C22 | _ => C23
set_option maxHeartbeats 4000000 in
theorem all_mk {l : PySem.W.OpenLaw} {w : World} {K : PySem.W.Frag} {h : Heap} {mg : Str → Option Value} {fa : Addr} {f_sCopied : Addr}
    {oc_sCopied kV_sCopied dc_sCopied pm_sCopied cd_sCopied ct_sCopied : Value} {od_sCopied an_sCopied : Option Addr} {sl_sCopied : Array (Option Value)}
    {f_sBox : Addr}
    {oc_sBox kV_sBox dc_sBox pm_sBox cd_sBox ct_sBox : Value} {od_sBox an_sBox : Option Addr} {sl_sBox : Array (Option Value)}
    {f_sTake : Addr}
    {oc_sTake kV_sTake dc_sTake pm_sTake cd_sTake ct_sTake : Value} {od_sTake an_sTake : Option Addr} {sl_sTake : Array (Option Value)}
    {f_sOne : Addr}
    {oc_sOne kV_sOne dc_sOne pm_sOne cd_sOne ct_sOne : Value} {od_sOne an_sOne : Option Addr} {sl_sOne : Array (Option Value)}
    {f_sSame : Addr}
    {oc_sSame kV_sSame dc_sSame pm_sSame cd_sSame ct_sSame : Value} {od_sSame an_sSame : Option Addr} {sl_sSame : Array (Option Value)}
    {f_sHue : Addr}
    {oc_sHue kV_sHue dc_sHue pm_sHue cd_sHue ct_sHue : Value} {od_sHue an_sHue : Option Addr} {sl_sHue : Array (Option Value)}
    {f_sArrow : Addr}
    {oc_sArrow kV_sArrow dc_sArrow pm_sArrow cd_sArrow ct_sArrow : Value} {od_sArrow an_sArrow : Option Addr} {sl_sArrow : Array (Option Value)}
    {f_sName : Addr}
    {oc_sName kV_sName dc_sName pm_sName cd_sName ct_sName : Value} {od_sName an_sName : Option Addr} {sl_sName : Array (Option Value)}
    {f_sAll : Addr}
    {oc_sAll kV_sAll dc_sAll pm_sAll cd_sAll ct_sAll : Value} {od_sAll an_sAll : Option Addr} {sl_sAll : Array (Option Value)}
    {f_sFlags : Addr}
    {oc_sFlags kV_sFlags dc_sFlags pm_sFlags cd_sFlags ct_sFlags : Value} {od_sFlags an_sFlags : Option Addr} {sl_sFlags : Array (Option Value)}
    {f_sField : Addr}
    {oc_sField kV_sField dc_sField pm_sField cd_sField ct_sField : Value} {od_sField an_sField : Option Addr} {sl_sField : Array (Option Value)}
    {f_sLaw : Addr}
    {oc_sLaw kV_sLaw dc_sLaw pm_sLaw cd_sLaw ct_sLaw : Value} {od_sLaw an_sLaw : Option Addr} {sl_sLaw : Array (Option Value)}
    {C0 f0 : Addr}
    {oc0 kV0 dc0 pm0 cd0 ct0 : Value} {od0 an0 : Option Addr} {sl0 : Array (Option Value)}
    {C1 f1 : Addr}
    {oc1 kV1 dc1 pm1 cd1 ct1 : Value} {od1 an1 : Option Addr} {sl1 : Array (Option Value)}
    {C2 f2 : Addr}
    {oc2 kV2 dc2 pm2 cd2 ct2 : Value} {od2 an2 : Option Addr} {sl2 : Array (Option Value)}
    {C3 f3 : Addr}
    {oc3 kV3 dc3 pm3 cd3 ct3 : Value} {od3 an3 : Option Addr} {sl3 : Array (Option Value)}
    {C4 f4 : Addr}
    {oc4 kV4 dc4 pm4 cd4 ct4 : Value} {od4 an4 : Option Addr} {sl4 : Array (Option Value)}
    {C5 f5 : Addr}
    {oc5 kV5 dc5 pm5 cd5 ct5 : Value} {od5 an5 : Option Addr} {sl5 : Array (Option Value)}
    {C6 f6 : Addr}
    {oc6 kV6 dc6 pm6 cd6 ct6 : Value} {od6 an6 : Option Addr} {sl6 : Array (Option Value)}
    {C7 f7 : Addr}
    {oc7 kV7 dc7 pm7 cd7 ct7 : Value} {od7 an7 : Option Addr} {sl7 : Array (Option Value)}
    {C8 f8 : Addr}
    {oc8 kV8 dc8 pm8 cd8 ct8 : Value} {od8 an8 : Option Addr} {sl8 : Array (Option Value)}
    {C9 f9 : Addr}
    {oc9 kV9 dc9 pm9 cd9 ct9 : Value} {od9 an9 : Option Addr} {sl9 : Array (Option Value)}
    {C10 f10 : Addr}
    {oc10 kV10 dc10 pm10 cd10 ct10 : Value} {od10 an10 : Option Addr} {sl10 : Array (Option Value)}
    {C11 f11 : Addr}
    {oc11 kV11 dc11 pm11 cd11 ct11 : Value} {od11 an11 : Option Addr} {sl11 : Array (Option Value)}
    {C12 f12 : Addr}
    {oc12 kV12 dc12 pm12 cd12 ct12 : Value} {od12 an12 : Option Addr} {sl12 : Array (Option Value)}
    {C13 f13 : Addr}
    {oc13 kV13 dc13 pm13 cd13 ct13 : Value} {od13 an13 : Option Addr} {sl13 : Array (Option Value)}
    {C14 f14 : Addr}
    {oc14 kV14 dc14 pm14 cd14 ct14 : Value} {od14 an14 : Option Addr} {sl14 : Array (Option Value)}
    {C15 f15 : Addr}
    {oc15 kV15 dc15 pm15 cd15 ct15 : Value} {od15 an15 : Option Addr} {sl15 : Array (Option Value)}
    {C16 f16 : Addr}
    {oc16 kV16 dc16 pm16 cd16 ct16 : Value} {od16 an16 : Option Addr} {sl16 : Array (Option Value)}
    {C17 f17 : Addr}
    {oc17 kV17 dc17 pm17 cd17 ct17 : Value} {od17 an17 : Option Addr} {sl17 : Array (Option Value)}
    {C18 f18 : Addr}
    {oc18 kV18 dc18 pm18 cd18 ct18 : Value} {od18 an18 : Option Addr} {sl18 : Array (Option Value)}
    {C19 f19 : Addr}
    {oc19 kV19 dc19 pm19 cd19 ct19 : Value} {od19 an19 : Option Addr} {sl19 : Array (Option Value)}
    {C20 f20 : Addr}
    {oc20 kV20 dc20 pm20 cd20 ct20 : Value} {od20 an20 : Option Addr} {sl20 : Array (Option Value)}
    {C21 f21 : Addr}
    {oc21 kV21 dc21 pm21 cd21 ct21 : Value} {od21 an21 : Option Addr} {sl21 : Array (Option Value)}
    {C22 f22 : Addr}
    {oc22 kV22 dc22 pm22 cd22 ct22 : Value} {od22 an22 : Option Addr} {sl22 : Array (Option Value)}
    {C23 f23 : Addr}
    {oc23 kV23 dc23 pm23 cd23 ct23 : Value} {od23 an23 : Option Addr} {sl23 : Array (Option Value)}
    {W M : Addr}
    (X : K.In h) (G : h.Ns mainGlobals mg) (hfa : mg "law" = some (.ref fa))
    (a_sCopied : PySem.W.nsIn K mainGlobals "copied" = some (some (.ref f_sCopied)))
    (l_sCopied : K.lookup f_sCopied = some ⟨oc_sCopied, od_sCopied, .func (PySem.W.fnOf "copied" "copied" (defArgs sCopied) (defBody sCopied) (defScope sCopied) .none kV_sCopied dc_sCopied pm_sCopied an_sCopied cd_sCopied ct_sCopied), sl_sCopied⟩) (c_sCopied : PySem.W.codeIn K cd_sCopied "copied" = true) (k_sCopied : PySem.W.keepIn K (.ref f_sCopied) = true)
    (a_sBox : PySem.W.nsIn K mainGlobals "_law_box" = some (some (.ref f_sBox)))
    (l_sBox : K.lookup f_sBox = some ⟨oc_sBox, od_sBox, .func (PySem.W.fnOf "_law_box" "_law_box" (defArgs sBox) (defBody sBox) (defScope sBox) .none kV_sBox dc_sBox pm_sBox an_sBox cd_sBox ct_sBox), sl_sBox⟩) (c_sBox : PySem.W.codeIn K cd_sBox "_law_box" = true) (k_sBox : PySem.W.keepIn K (.ref f_sBox) = true)
    (a_sTake : PySem.W.nsIn K mainGlobals "_law_take" = some (some (.ref f_sTake)))
    (l_sTake : K.lookup f_sTake = some ⟨oc_sTake, od_sTake, .func (PySem.W.fnOf "_law_take" "_law_take" (defArgs sTake) (defBody sTake) (defScope sTake) .none kV_sTake dc_sTake pm_sTake an_sTake cd_sTake ct_sTake), sl_sTake⟩) (c_sTake : PySem.W.codeIn K cd_sTake "_law_take" = true) (k_sTake : PySem.W.keepIn K (.ref f_sTake) = true)
    (a_sOne : PySem.W.nsIn K mainGlobals "_law_one" = some (some (.ref f_sOne)))
    (l_sOne : K.lookup f_sOne = some ⟨oc_sOne, od_sOne, .func (PySem.W.fnOf "_law_one" "_law_one" (defArgs sOne) (defBody sOne) (defScope sOne) .none kV_sOne dc_sOne pm_sOne an_sOne cd_sOne ct_sOne), sl_sOne⟩) (c_sOne : PySem.W.codeIn K cd_sOne "_law_one" = true) (k_sOne : PySem.W.keepIn K (.ref f_sOne) = true)
    (a_sSame : PySem.W.nsIn K mainGlobals "_law_same" = some (some (.ref f_sSame)))
    (l_sSame : K.lookup f_sSame = some ⟨oc_sSame, od_sSame, .func (PySem.W.fnOf "_law_same" "_law_same" (defArgs sSame) (defBody sSame) (defScope sSame) .none kV_sSame dc_sSame pm_sSame an_sSame cd_sSame ct_sSame), sl_sSame⟩) (c_sSame : PySem.W.codeIn K cd_sSame "_law_same" = true) (k_sSame : PySem.W.keepIn K (.ref f_sSame) = true)
    (a_sHue : PySem.W.nsIn K mainGlobals "_law_hue" = some (some (.ref f_sHue)))
    (l_sHue : K.lookup f_sHue = some ⟨oc_sHue, od_sHue, .func (PySem.W.fnOf "_law_hue" "_law_hue" (defArgs sHue) (defBody sHue) (defScope sHue) .none kV_sHue dc_sHue pm_sHue an_sHue cd_sHue ct_sHue), sl_sHue⟩) (c_sHue : PySem.W.codeIn K cd_sHue "_law_hue" = true) (k_sHue : PySem.W.keepIn K (.ref f_sHue) = true)
    (a_sArrow : PySem.W.nsIn K mainGlobals "_law_arrow" = some (some (.ref f_sArrow)))
    (l_sArrow : K.lookup f_sArrow = some ⟨oc_sArrow, od_sArrow, .func (PySem.W.fnOf "_law_arrow" "_law_arrow" (defArgs sArrow) (defBody sArrow) (defScope sArrow) .none kV_sArrow dc_sArrow pm_sArrow an_sArrow cd_sArrow ct_sArrow), sl_sArrow⟩) (c_sArrow : PySem.W.codeIn K cd_sArrow "_law_arrow" = true) (k_sArrow : PySem.W.keepIn K (.ref f_sArrow) = true)
    (a_sName : PySem.W.nsIn K mainGlobals "_law_name" = some (some (.ref f_sName)))
    (l_sName : K.lookup f_sName = some ⟨oc_sName, od_sName, .func (PySem.W.fnOf "_law_name" "_law_name" (defArgs sName) (defBody sName) (defScope sName) .none kV_sName dc_sName pm_sName an_sName cd_sName ct_sName), sl_sName⟩) (c_sName : PySem.W.codeIn K cd_sName "_law_name" = true) (k_sName : PySem.W.keepIn K (.ref f_sName) = true)
    (a_sAll : PySem.W.nsIn K mainGlobals "_law_all" = some (some (.ref f_sAll)))
    (l_sAll : K.lookup f_sAll = some ⟨oc_sAll, od_sAll, .func (PySem.W.fnOf "_law_all" "_law_all" (defArgs sAll) (defBody sAll) (defScope sAll) .none kV_sAll dc_sAll pm_sAll an_sAll cd_sAll ct_sAll), sl_sAll⟩) (c_sAll : PySem.W.codeIn K cd_sAll "_law_all" = true) (k_sAll : PySem.W.keepIn K (.ref f_sAll) = true)
    (a_sFlags : PySem.W.nsIn K mainGlobals "_law_flags" = some (some (.ref f_sFlags)))
    (l_sFlags : K.lookup f_sFlags = some ⟨oc_sFlags, od_sFlags, .func (PySem.W.fnOf "_law_flags" "_law_flags" (defArgs sFlags) (defBody sFlags) (defScope sFlags) .none kV_sFlags dc_sFlags pm_sFlags an_sFlags cd_sFlags ct_sFlags), sl_sFlags⟩) (c_sFlags : PySem.W.codeIn K cd_sFlags "_law_flags" = true) (k_sFlags : PySem.W.keepIn K (.ref f_sFlags) = true)
    (a_sField : PySem.W.nsIn K mainGlobals "_law_field" = some (some (.ref f_sField)))
    (l_sField : K.lookup f_sField = some ⟨oc_sField, od_sField, .func (PySem.W.fnOf "_law_field" "_law_field" (defArgs sField) (defBody sField) (defScope sField) .none kV_sField dc_sField pm_sField an_sField cd_sField ct_sField), sl_sField⟩) (c_sField : PySem.W.codeIn K cd_sField "_law_field" = true) (k_sField : PySem.W.keepIn K (.ref f_sField) = true)
    (a_sLaw : PySem.W.nsIn K mainGlobals "law" = some (some (.ref f_sLaw)))
    (l_sLaw : K.lookup f_sLaw = some ⟨oc_sLaw, od_sLaw, .func (PySem.W.fnOf "law" "law" (defArgs sLaw) (defBody sLaw) (defScope sLaw) .none kV_sLaw dc_sLaw pm_sLaw an_sLaw cd_sLaw ct_sLaw), sl_sLaw⟩) (c_sLaw : PySem.W.codeIn K cd_sLaw "law" = true) (k_sLaw : PySem.W.keepIn K (.ref f_sLaw) = true)
    (a0 : PySem.W.nsIn K mainGlobals "BadSize" = some (some (.ref C0))) (j0 : PySem.W.findIn K (.ref C0) "__init__" = some (some (.ref f0))) (i0 : PySem.W.isFn K (.ref f0) = true)
    (l0 : K.lookup f0 = some ⟨oc0, od0, .func (PySem.W.fnOf "__init__" "BadSize.__init__" (defArgs sI0) (defBody sI0) (defScope sI0) .none kV0 dc0 pm0 an0 cd0 ct0), sl0⟩) (c0 : PySem.W.codeIn K cd0 "BadSize.__init__" = true) (k0 : PySem.W.keepIn K (.ref f0) = true)
    (a1 : PySem.W.nsIn K mainGlobals "BadArrow" = some (some (.ref C1))) (j1 : PySem.W.findIn K (.ref C1) "__init__" = some (some (.ref f1))) (i1 : PySem.W.isFn K (.ref f1) = true)
    (l1 : K.lookup f1 = some ⟨oc1, od1, .func (PySem.W.fnOf "__init__" "BadArrow.__init__" (defArgs sI1) (defBody sI1) (defScope sI1) .none kV1 dc1 pm1 an1 cd1 ct1), sl1⟩) (c1 : PySem.W.codeIn K cd1 "BadArrow.__init__" = true) (k1 : PySem.W.keepIn K (.ref f1) = true)
    (a2 : PySem.W.nsIn K mainGlobals "BadMark" = some (some (.ref C2))) (j2 : PySem.W.findIn K (.ref C2) "__init__" = some (some (.ref f2))) (i2 : PySem.W.isFn K (.ref f2) = true)
    (l2 : K.lookup f2 = some ⟨oc2, od2, .func (PySem.W.fnOf "__init__" "BadMark.__init__" (defArgs sI2) (defBody sI2) (defScope sI2) .none kV2 dc2 pm2 an2 cd2 ct2), sl2⟩) (c2 : PySem.W.codeIn K cd2 "BadMark.__init__" = true) (k2 : PySem.W.keepIn K (.ref f2) = true)
    (a3 : PySem.W.nsIn K mainGlobals "BadPoint" = some (some (.ref C3))) (j3 : PySem.W.findIn K (.ref C3) "__init__" = some (some (.ref f3))) (i3 : PySem.W.isFn K (.ref f3) = true)
    (l3 : K.lookup f3 = some ⟨oc3, od3, .func (PySem.W.fnOf "__init__" "BadPoint.__init__" (defArgs sI3) (defBody sI3) (defScope sI3) .none kV3 dc3 pm3 an3 cd3 ct3), sl3⟩) (c3 : PySem.W.codeIn K cd3 "BadPoint.__init__" = true) (k3 : PySem.W.keepIn K (.ref f3) = true)
    (a4 : PySem.W.nsIn K mainGlobals "BadTie" = some (some (.ref C4))) (j4 : PySem.W.findIn K (.ref C4) "__init__" = some (some (.ref f4))) (i4 : PySem.W.isFn K (.ref f4) = true)
    (l4 : K.lookup f4 = some ⟨oc4, od4, .func (PySem.W.fnOf "__init__" "BadTie.__init__" (defArgs sI4) (defBody sI4) (defScope sI4) .none kV4 dc4 pm4 an4 cd4 ct4), sl4⟩) (c4 : PySem.W.codeIn K cd4 "BadTie.__init__" = true) (k4 : PySem.W.keepIn K (.ref f4) = true)
    (a5 : PySem.W.nsIn K mainGlobals "BadText" = some (some (.ref C5))) (j5 : PySem.W.findIn K (.ref C5) "__init__" = some (some (.ref f5))) (i5 : PySem.W.isFn K (.ref f5) = true)
    (l5 : K.lookup f5 = some ⟨oc5, od5, .func (PySem.W.fnOf "__init__" "BadText.__init__" (defArgs sI5) (defBody sI5) (defScope sI5) .none kV5 dc5 pm5 an5 cd5 ct5), sl5⟩) (c5 : PySem.W.codeIn K cd5 "BadText.__init__" = true) (k5 : PySem.W.keepIn K (.ref f5) = true)
    (a6 : PySem.W.nsIn K mainGlobals "BadName" = some (some (.ref C6))) (j6 : PySem.W.findIn K (.ref C6) "__init__" = some (some (.ref f6))) (i6 : PySem.W.isFn K (.ref f6) = true)
    (l6 : K.lookup f6 = some ⟨oc6, od6, .func (PySem.W.fnOf "__init__" "BadName.__init__" (defArgs sI6) (defBody sI6) (defScope sI6) .none kV6 dc6 pm6 an6 cd6 ct6), sl6⟩) (c6 : PySem.W.codeIn K cd6 "BadName.__init__" = true) (k6 : PySem.W.keepIn K (.ref f6) = true)
    (a7 : PySem.W.nsIn K mainGlobals "BadNumber" = some (some (.ref C7))) (j7 : PySem.W.findIn K (.ref C7) "__init__" = some (some (.ref f7))) (i7 : PySem.W.isFn K (.ref f7) = true)
    (l7 : K.lookup f7 = some ⟨oc7, od7, .func (PySem.W.fnOf "__init__" "BadNumber.__init__" (defArgs sI7) (defBody sI7) (defScope sI7) .none kV7 dc7 pm7 an7 cd7 ct7), sl7⟩) (c7 : PySem.W.codeIn K cd7 "BadNumber.__init__" = true) (k7 : PySem.W.keepIn K (.ref f7) = true)
    (a8 : PySem.W.nsIn K mainGlobals "BadSaying" = some (some (.ref C8))) (j8 : PySem.W.findIn K (.ref C8) "__init__" = some (some (.ref f8))) (i8 : PySem.W.isFn K (.ref f8) = true)
    (l8 : K.lookup f8 = some ⟨oc8, od8, .func (PySem.W.fnOf "__init__" "BadSaying.__init__" (defArgs sI8) (defBody sI8) (defScope sI8) .none kV8 dc8 pm8 an8 cd8 ct8), sl8⟩) (c8 : PySem.W.codeIn K cd8 "BadSaying.__init__" = true) (k8 : PySem.W.keepIn K (.ref f8) = true)
    (a9 : PySem.W.nsIn K mainGlobals "BadStrike" = some (some (.ref C9))) (j9 : PySem.W.findIn K (.ref C9) "__init__" = some (some (.ref f9))) (i9 : PySem.W.isFn K (.ref f9) = true)
    (l9 : K.lookup f9 = some ⟨oc9, od9, .func (PySem.W.fnOf "__init__" "BadStrike.__init__" (defArgs sI9) (defBody sI9) (defScope sI9) .none kV9 dc9 pm9 an9 cd9 ct9), sl9⟩) (c9 : PySem.W.codeIn K cd9 "BadStrike.__init__" = true) (k9 : PySem.W.keepIn K (.ref f9) = true)
    (a10 : PySem.W.nsIn K mainGlobals "BadDeed" = some (some (.ref C10))) (j10 : PySem.W.findIn K (.ref C10) "__init__" = some (some (.ref f10))) (i10 : PySem.W.isFn K (.ref f10) = true)
    (l10 : K.lookup f10 = some ⟨oc10, od10, .func (PySem.W.fnOf "__init__" "BadDeed.__init__" (defArgs sI10) (defBody sI10) (defScope sI10) .none kV10 dc10 pm10 an10 cd10 ct10), sl10⟩) (c10 : PySem.W.codeIn K cd10 "BadDeed.__init__" = true) (k10 : PySem.W.keepIn K (.ref f10) = true)
    (a11 : PySem.W.nsIn K mainGlobals "NotTree" = some (some (.ref C11))) (j11 : PySem.W.findIn K (.ref C11) "__init__" = some (some (.ref f11))) (i11 : PySem.W.isFn K (.ref f11) = true)
    (l11 : K.lookup f11 = some ⟨oc11, od11, .func (PySem.W.fnOf "__init__" "NotTree.__init__" (defArgs sI11) (defBody sI11) (defScope sI11) .none kV11 dc11 pm11 an11 cd11 ct11), sl11⟩) (c11 : PySem.W.codeIn K cd11 "NotTree.__init__" = true) (k11 : PySem.W.keepIn K (.ref f11) = true)
    (a12 : PySem.W.nsIn K mainGlobals "NotTold" = some (some (.ref C12))) (j12 : PySem.W.findIn K (.ref C12) "__init__" = some (some (.ref f12))) (i12 : PySem.W.isFn K (.ref f12) = true)
    (l12 : K.lookup f12 = some ⟨oc12, od12, .func (PySem.W.fnOf "__init__" "NotTold.__init__" (defArgs sI12) (defBody sI12) (defScope sI12) .none kV12 dc12 pm12 an12 cd12 ct12), sl12⟩) (c12 : PySem.W.codeIn K cd12 "NotTold.__init__" = true) (k12 : PySem.W.keepIn K (.ref f12) = true)
    (a13 : PySem.W.nsIn K mainGlobals "TooMany" = some (some (.ref C13))) (j13 : PySem.W.findIn K (.ref C13) "__init__" = some (some (.ref f13))) (i13 : PySem.W.isFn K (.ref f13) = true)
    (l13 : K.lookup f13 = some ⟨oc13, od13, .func (PySem.W.fnOf "__init__" "TooMany.__init__" (defArgs sI13) (defBody sI13) (defScope sI13) .none kV13 dc13 pm13 an13 cd13 ct13), sl13⟩) (c13 : PySem.W.codeIn K cd13 "TooMany.__init__" = true) (k13 : PySem.W.keepIn K (.ref f13) = true)
    (a14 : PySem.W.nsIn K mainGlobals "Taken" = some (some (.ref C14))) (j14 : PySem.W.findIn K (.ref C14) "__init__" = some (some (.ref f14))) (i14 : PySem.W.isFn K (.ref f14) = true)
    (l14 : K.lookup f14 = some ⟨oc14, od14, .func (PySem.W.fnOf "__init__" "Taken.__init__" (defArgs sI14) (defBody sI14) (defScope sI14) .none kV14 dc14 pm14 an14 cd14 ct14), sl14⟩) (c14 : PySem.W.codeIn K cd14 "Taken.__init__" = true) (k14 : PySem.W.keepIn K (.ref f14) = true)
    (a15 : PySem.W.nsIn K mainGlobals "Full" = some (some (.ref C15))) (j15 : PySem.W.findIn K (.ref C15) "__init__" = some (some (.ref f15))) (i15 : PySem.W.isFn K (.ref f15) = true)
    (l15 : K.lookup f15 = some ⟨oc15, od15, .func (PySem.W.fnOf "__init__" "Full.__init__" (defArgs sI15) (defBody sI15) (defScope sI15) .none kV15 dc15 pm15 an15 cd15 ct15), sl15⟩) (c15 : PySem.W.codeIn K cd15 "Full.__init__" = true) (k15 : PySem.W.keepIn K (.ref f15) = true)
    (a16 : PySem.W.nsIn K mainGlobals "InUse" = some (some (.ref C16))) (j16 : PySem.W.findIn K (.ref C16) "__init__" = some (some (.ref f16))) (i16 : PySem.W.isFn K (.ref f16) = true)
    (l16 : K.lookup f16 = some ⟨oc16, od16, .func (PySem.W.fnOf "__init__" "InUse.__init__" (defArgs sI16) (defBody sI16) (defScope sI16) .none kV16 dc16 pm16 an16 cd16 ct16), sl16⟩) (c16 : PySem.W.codeIn K cd16 "InUse.__init__" = true) (k16 : PySem.W.keepIn K (.ref f16) = true)
    (a17 : PySem.W.nsIn K mainGlobals "Same" = some (some (.ref C17))) (j17 : PySem.W.findIn K (.ref C17) "__init__" = some (some (.ref f17))) (i17 : PySem.W.isFn K (.ref f17) = true)
    (l17 : K.lookup f17 = some ⟨oc17, od17, .func (PySem.W.fnOf "__init__" "Same.__init__" (defArgs sI17) (defBody sI17) (defScope sI17) .none kV17 dc17 pm17 an17 cd17 ct17), sl17⟩) (c17 : PySem.W.codeIn K cd17 "Same.__init__" = true) (k17 : PySem.W.keepIn K (.ref f17) = true)
    (a18 : PySem.W.nsIn K mainGlobals "NoWeb" = some (some (.ref C18))) (j18 : PySem.W.findIn K (.ref C18) "__init__" = some (some (.ref f18))) (i18 : PySem.W.isFn K (.ref f18) = true)
    (l18 : K.lookup f18 = some ⟨oc18, od18, .func (PySem.W.fnOf "__init__" "NoWeb.__init__" (defArgs sI18) (defBody sI18) (defScope sI18) .none kV18 dc18 pm18 an18 cd18 ct18), sl18⟩) (c18 : PySem.W.codeIn K cd18 "NoWeb.__init__" = true) (k18 : PySem.W.keepIn K (.ref f18) = true)
    (a19 : PySem.W.nsIn K mainGlobals "NoTree" = some (some (.ref C19))) (j19 : PySem.W.findIn K (.ref C19) "__init__" = some (some (.ref f19))) (i19 : PySem.W.isFn K (.ref f19) = true)
    (l19 : K.lookup f19 = some ⟨oc19, od19, .func (PySem.W.fnOf "__init__" "NoTree.__init__" (defArgs sI19) (defBody sI19) (defScope sI19) .none kV19 dc19 pm19 an19 cd19 ct19), sl19⟩) (c19 : PySem.W.codeIn K cd19 "NoTree.__init__" = true) (k19 : PySem.W.keepIn K (.ref f19) = true)
    (a20 : PySem.W.nsIn K mainGlobals "NoRule" = some (some (.ref C20))) (j20 : PySem.W.findIn K (.ref C20) "__init__" = some (some (.ref f20))) (i20 : PySem.W.isFn K (.ref f20) = true)
    (l20 : K.lookup f20 = some ⟨oc20, od20, .func (PySem.W.fnOf "__init__" "NoRule.__init__" (defArgs sI20) (defBody sI20) (defScope sI20) .none kV20 dc20 pm20 an20 cd20 ct20), sl20⟩) (c20 : PySem.W.codeIn K cd20 "NoRule.__init__" = true) (k20 : PySem.W.keepIn K (.ref f20) = true)
    (a21 : PySem.W.nsIn K mainGlobals "NoThing" = some (some (.ref C21))) (j21 : PySem.W.findIn K (.ref C21) "__init__" = some (some (.ref f21))) (i21 : PySem.W.isFn K (.ref f21) = true)
    (l21 : K.lookup f21 = some ⟨oc21, od21, .func (PySem.W.fnOf "__init__" "NoThing.__init__" (defArgs sI21) (defBody sI21) (defScope sI21) .none kV21 dc21 pm21 an21 cd21 ct21), sl21⟩) (c21 : PySem.W.codeIn K cd21 "NoThing.__init__" = true) (k21 : PySem.W.keepIn K (.ref f21) = true)
    (a22 : PySem.W.nsIn K mainGlobals "NoTie" = some (some (.ref C22))) (j22 : PySem.W.findIn K (.ref C22) "__init__" = some (some (.ref f22))) (i22 : PySem.W.isFn K (.ref f22) = true)
    (l22 : K.lookup f22 = some ⟨oc22, od22, .func (PySem.W.fnOf "__init__" "NoTie.__init__" (defArgs sI22) (defBody sI22) (defScope sI22) .none kV22 dc22 pm22 an22 cd22 ct22), sl22⟩) (c22 : PySem.W.codeIn K cd22 "NoTie.__init__" = true) (k22 : PySem.W.keepIn K (.ref f22) = true)
    (a23 : PySem.W.nsIn K mainGlobals "NothingLeft" = some (some (.ref C23))) (j23 : PySem.W.findIn K (.ref C23) "__init__" = some (some (.ref f23))) (i23 : PySem.W.isFn K (.ref f23) = true)
    (l23 : K.lookup f23 = some ⟨oc23, od23, .func (PySem.W.fnOf "__init__" "NothingLeft.__init__" (defArgs sI23) (defBody sI23) (defScope sI23) .none kV23 dc23 pm23 an23 cd23 ct23), sl23⟩) (c23 : PySem.W.codeIn K cd23 "NothingLeft.__init__" = true) (k23 : PySem.W.keepIn K (.ref f23) = true)
    (aW : PySem.W.nsIn K mainGlobals "WebError" = some (some (.ref W))) (aM : PySem.W.nsIn K mainGlobals "Missing" = some (some (.ref M)))
    (z_len : PySem.W.nsIn K mainGlobals "len" = some none)
    (z_list : PySem.W.nsIn K mainGlobals "list" = some none)
    (z_range : PySem.W.nsIn K mainGlobals "range" = some none)
    (z_isinstance : PySem.W.nsIn K mainGlobals "isinstance" = some none)
    (z_tuple : PySem.W.nsIn K mainGlobals "tuple" = some none)
    (z_bool : PySem.W.nsIn K mainGlobals "bool" = some none)
    (z_int : PySem.W.nsIn K mainGlobals "int" = some none)
    (z_str : PySem.W.nsIn K mainGlobals "str" = some none)
    (z_all : PySem.W.nsIn K mainGlobals "all" = some none)
    (z_zip : PySem.W.nsIn K mainGlobals "zip" = some none)
    (z_dict : PySem.W.nsIn K mainGlobals "dict" = some none)
    (z_ValueError : PySem.W.nsIn K mainGlobals "ValueError" = some none)
    (z_LookupError : PySem.W.nsIn K mainGlobals "LookupError" = some none)
    (z_IndexError : PySem.W.nsIn K mainGlobals "IndexError" = some none)
    (ck : chk K (csOf C0 C1 C2 C3 C4 C5 C6 C7 C8 C9 C10 C11 C12 C13 C14 C15 C16 C17 C18 C19 C20 C21 C22 C23) W M = true) :
    ∃ fd : FuncData, (∀ (s : Shared) (v : Value), BindsTo s fd ⟨[v], []⟩ [("_law_script", v)]) ∧ ∀ base : Heap, K.In base → base.Ns mainGlobals mg → FnOk l.prog w K mg base CX0 5 fa fd ["_law_script"] (spLaw K) := by
  have e := hfa.symm.trans (PySem.W.mg_of X G a_sLaw)
  cases e
  have fa := facts_of ck
  have F_sCopied := fun_mk (st := sCopied) l_sCopied c_sCopied k_sCopied
  have F_sBox := fun_mk (st := sBox) l_sBox c_sBox k_sBox
  have F_sTake := fun_mk (st := sTake) l_sTake c_sTake k_sTake
  have F_sOne := fun_mk (st := sOne) l_sOne c_sOne k_sOne
  have F_sSame := fun_mk (st := sSame) l_sSame c_sSame k_sSame
  have F_sHue := fun_mk (st := sHue) l_sHue c_sHue k_sHue
  have F_sArrow := fun_mk (st := sArrow) l_sArrow c_sArrow k_sArrow
  have F_sName := fun_mk (st := sName) l_sName c_sName k_sName
  have F_sAll := fun_mk (st := sAll) l_sAll c_sAll k_sAll
  have F_sFlags := fun_mk (st := sFlags) l_sFlags c_sFlags k_sFlags
  have F_sField := fun_mk (st := sField) l_sField c_sField k_sField
  have F_sLaw := fun_mk (st := sLaw) l_sLaw c_sLaw k_sLaw
  have b_sCopied := F_sCopied.binds (ps := ["thing"]) fun _ _ _ _ _ _ us hl => match us, hl with | [_], _ => rfl
  have b_sBox := F_sBox.binds (ps := ["_law_script"]) fun _ _ _ _ _ _ us hl => match us, hl with | [_], _ => rfl
  have b_sTake := F_sTake.binds (ps := ["_law_box_here", "_law_many"]) fun _ _ _ _ _ _ us hl => match us, hl with | [_, _], _ => rfl
  have b_sOne := F_sOne.binds (ps := ["_law_box_here", "_law_some"]) fun _ _ _ _ _ _ us hl => match us, hl with | [_, _], _ => rfl
  have b_sSame := F_sSame.binds (ps := ["_law_found", "_law_due"]) fun _ _ _ _ _ _ us hl => match us, hl with | [_, _], _ => rfl
  have b_sHue := F_sHue.binds (ps := ["_law_box_here"]) fun _ _ _ _ _ _ us hl => match us, hl with | [_], _ => rfl
  have b_sArrow := F_sArrow.binds (ps := ["_law_box_here", "_law_many"]) fun _ _ _ _ _ _ us hl => match us, hl with | [_, _], _ => rfl
  have b_sName := F_sName.binds (ps := ["_law_box_here"]) fun _ _ _ _ _ _ us hl => match us, hl with | [_], _ => rfl
  have b_sAll := F_sAll.binds (ps := ["_law_number", "_law_text", "_law_my_tie"]) fun _ _ _ _ _ _ us hl => match us, hl with | [_, _, _], _ => rfl
  have b_sFlags := F_sFlags.binds (ps := ["_law_e"]) fun _ _ _ _ _ _ us hl => match us, hl with | [_], _ => rfl
  have b_sField := F_sField.binds (ps := ["_law_e"]) fun _ _ _ _ _ _ us hl => match us, hl with | [_], _ => rfl
  have sm : SmT mg := ⟨(PySem.W.mg_none_of X G z_isinstance), (PySem.W.mg_none_of X G z_list), (PySem.W.mg_none_of X G z_tuple), (PySem.W.mg_none_of X G z_bool), (PySem.W.mg_none_of X G z_int), (PySem.W.mg_none_of X G z_str), (PySem.W.mg_none_of X G z_len), (PySem.W.mg_none_of X G z_all), (PySem.W.mg_none_of X G z_zip)⟩
  have bl : Bl mg := ⟨(PySem.W.mg_none_of X G z_len), (PySem.W.mg_none_of X G z_range), (PySem.W.mg_none_of X G z_isinstance), (PySem.W.mg_none_of X G z_ValueError), (PySem.W.mg_none_of X G z_LookupError), (PySem.W.mg_none_of X G z_IndexError)⟩
  refine ⟨PySem.W.fnOf "law" "law" (defArgs sLaw) (defBody sLaw) (defScope sLaw) .none kV_sLaw dc_sLaw pm_sLaw an_sLaw cd_sLaw ct_sLaw, fun s v => .of_eq rfl, fun base _ _ => ?_⟩
  have o_sCopied : Df l.prog w K mg base 1 "copied" ["thing"] spCopied f_sCopied _ := ⟨ok_copied F_sCopied sm (PySem.W.mg_none_of X G z_dict), PySem.W.mg_of X G a_sCopied, k_sCopied, b_sCopied⟩
  have o_sBox : Df l.prog w K mg base 1 "_law_box" ["_law_script"] (spBox K) f_sBox _ := ⟨ok_box F_sBox (PySem.W.mg_none_of X G z_len) (PySem.W.mg_none_of X G z_list), PySem.W.mg_of X G a_sBox, k_sBox, b_sBox⟩
  have o_sTake : Df l.prog w K mg base 1 "_law_take" ["_law_box_here", "_law_many"] spTake f_sTake _ := ⟨ok_take F_sTake (PySem.W.mg_none_of X G z_len), PySem.W.mg_of X G a_sTake, k_sTake, b_sTake⟩
  have o_sOne : Df l.prog w K mg base 2 "_law_one" ["_law_box_here", "_law_some"] (spOne K) f_sOne _ := ⟨ok_one F_sOne (PySem.W.mg_none_of X G z_len) o_sTake, PySem.W.mg_of X G a_sOne, k_sOne, b_sOne⟩
  have o_sSame : Df l.prog w K mg base 3 "_law_same" ["_law_found", "_law_due"] (spSame K 2) f_sSame _ := ⟨ok_same F_sSame (PySem.W.mg_of X G a_sSame) b_sSame sm 2, PySem.W.mg_of X G a_sSame, k_sSame, b_sSame⟩
  have o_sHue : Df l.prog w K mg base 3 "_law_hue" ["_law_box_here"] spHue f_sHue _ := ⟨ok_hue F_sHue o_sOne, PySem.W.mg_of X G a_sHue, k_sHue, b_sHue⟩
  have o_sArrow : Df l.prog w K mg base 4 "_law_arrow" ["_law_box_here", "_law_many"] spArrow f_sArrow _ := ⟨ok_arrow F_sArrow o_sHue o_sTake, PySem.W.mg_of X G a_sArrow, k_sArrow, b_sArrow⟩
  have o_sName : Df l.prog w K mg base 3 "_law_name" ["_law_box_here"] spName f_sName _ := ⟨ok_name F_sName (PySem.W.mg_none_of X G z_range) o_sOne, PySem.W.mg_of X G a_sName, k_sName, b_sName⟩
  have c : Cls24 l.prog w K mg base (csOf C0 C1 C2 C3 C4 C5 C6 C7 C8 C9 C10 C11 C12 C13 C14 C15 C16 C17 C18 C19 C20 C21 C22 C23) := {
    c0 := by
      have FF := fun_mk (st := sI0) l0 c0 k0
      exact ⟨PySem.W.mg_of X G a0, fa.ex 0 (by decide), ⟨f0, _, ⟨fa.ex 0 (by decide), j0, i0⟩, ok_i0 FF (fa.ex 0 (by decide)) (fa.nf 0 (by decide) (by decide)) (fa.nw 0 (by decide)), FF.binds (ps := ["self", "number"]) (fun _ _ _ _ _ _ us hl => match us, hl with | [_, _], _ => rfl), fun s v z _ => .of_eq rfl⟩, fa.nf 0 (by decide) (by decide), fa.nw 0 (by decide)⟩
    c1 := by
      have FF := fun_mk (st := sI1) l1 c1 k1
      exact ⟨PySem.W.mg_of X G a1, fa.ex 1 (by decide), ⟨f1, _, ⟨fa.ex 1 (by decide), j1, i1⟩, ok_i1 FF (fa.ex 1 (by decide)) (fa.nf 1 (by decide) (by decide)) (fa.nw 1 (by decide)), FF.binds (ps := ["self", "at"]) (fun _ _ _ _ _ _ us hl => match us, hl with | [_, _], _ => rfl), fun s v z _ => .of_eq rfl⟩, fa.nf 1 (by decide) (by decide), fa.nw 1 (by decide)⟩
    c2 := by
      have FF := fun_mk (st := sI2) l2 c2 k2
      exact ⟨PySem.W.mg_of X G a2, fa.ex 2 (by decide), ⟨f2, _, ⟨fa.ex 2 (by decide), j2, i2⟩, ok_i2 FF (fa.ex 2 (by decide)) (fa.nf 2 (by decide) (by decide)) (fa.nw 2 (by decide)), FF.binds (ps := ["self", "at"]) (fun _ _ _ _ _ _ us hl => match us, hl with | [_, _], _ => rfl), fun s v z _ => .of_eq rfl⟩, fa.nf 2 (by decide) (by decide), fa.nw 2 (by decide)⟩
    c3 := by
      have FF := fun_mk (st := sI3) l3 c3 k3
      exact ⟨PySem.W.mg_of X G a3, fa.ex 3 (by decide), ⟨f3, _, ⟨fa.ex 3 (by decide), j3, i3⟩, ok_i3 FF (fa.ex 3 (by decide)) (fa.nf 3 (by decide) (by decide)) (fa.nw 3 (by decide)), FF.binds (ps := ["self", "number"]) (fun _ _ _ _ _ _ us hl => match us, hl with | [_, _], _ => rfl), fun s v z _ => .of_eq rfl⟩, fa.nf 3 (by decide) (by decide), fa.nw 3 (by decide)⟩
    c4 := by
      have FF := fun_mk (st := sI4) l4 c4 k4
      exact ⟨PySem.W.mg_of X G a4, fa.ex 4 (by decide), ⟨f4, _, ⟨fa.ex 4 (by decide), j4, i4⟩, ok_i4 FF (fa.ex 4 (by decide)) (fa.nf 4 (by decide) (by decide)) (fa.nw 4 (by decide)), FF.binds (ps := ["self", "tie"]) (fun _ _ _ _ _ _ us hl => match us, hl with | [_, _], _ => rfl), fun s v z _ => .of_eq rfl⟩, fa.nf 4 (by decide) (by decide), fa.nw 4 (by decide)⟩
    c5 := by
      have FF := fun_mk (st := sI5) l5 c5 k5
      exact ⟨PySem.W.mg_of X G a5, fa.ex 5 (by decide), ⟨f5, _, ⟨fa.ex 5 (by decide), j5, i5⟩, ok_i5 FF (fa.ex 5 (by decide)) (fa.nf 5 (by decide) (by decide)) (fa.nw 5 (by decide)), FF.binds (ps := ["self", "at"]) (fun _ _ _ _ _ _ us hl => match us, hl with | [_, _], _ => rfl), fun s v z _ => .of_eq rfl⟩, fa.nf 5 (by decide) (by decide), fa.nw 5 (by decide)⟩
    c6 := by
      have FF := fun_mk (st := sI6) l6 c6 k6
      exact ⟨PySem.W.mg_of X G a6, fa.ex 6 (by decide), ⟨f6, _, ⟨fa.ex 6 (by decide), j6, i6⟩, ok_i6 FF (fa.ex 6 (by decide)) (fa.nf 6 (by decide) (by decide)) (fa.nw 6 (by decide)), FF.binds (ps := ["self", "name"]) (fun _ _ _ _ _ _ us hl => match us, hl with | [_, _], _ => rfl), fun s v z _ => .of_eq rfl⟩, fa.nf 6 (by decide) (by decide), fa.nw 6 (by decide)⟩
    c7 := by
      have FF := fun_mk (st := sI7) l7 c7 k7
      exact ⟨PySem.W.mg_of X G a7, fa.ex 7 (by decide), ⟨f7, _, ⟨fa.ex 7 (by decide), j7, i7⟩, ok_i7 FF (fa.ex 7 (by decide)) (fa.nf 7 (by decide) (by decide)) (fa.nw 7 (by decide)), FF.binds (ps := ["self", "number"]) (fun _ _ _ _ _ _ us hl => match us, hl with | [_, _], _ => rfl), fun s v z _ => .of_eq rfl⟩, fa.nf 7 (by decide) (by decide), fa.nw 7 (by decide)⟩
    c8 := by
      have FF := fun_mk (st := sI8) l8 c8 k8
      exact ⟨PySem.W.mg_of X G a8, fa.ex 8 (by decide), ⟨f8, _, ⟨fa.ex 8 (by decide), j8, i8⟩, ok_i8 FF (fa.ex 8 (by decide)) (fa.nw 8 (by decide)), fun s v _ => .of_eq rfl⟩, fa.nw 8 (by decide)⟩
    c9 := by
      have FF := fun_mk (st := sI9) l9 c9 k9
      exact ⟨PySem.W.mg_of X G a9, fa.ex 9 (by decide), ⟨f9, _, ⟨fa.ex 9 (by decide), j9, i9⟩, ok_i9 FF (fa.ex 9 (by decide)) (fa.nf 9 (by decide) (by decide)) (fa.nw 9 (by decide)), FF.binds (ps := ["self", "at"]) (fun _ _ _ _ _ _ us hl => match us, hl with | [_, _], _ => rfl), fun s v z _ => .of_eq rfl⟩, fa.nf 9 (by decide) (by decide), fa.nw 9 (by decide)⟩
    c10 := by
      have FF := fun_mk (st := sI10) l10 c10 k10
      exact ⟨PySem.W.mg_of X G a10, fa.ex 10 (by decide), ⟨f10, _, ⟨fa.ex 10 (by decide), j10, i10⟩, ok_i10 FF o_sCopied (fa.ex 10 (by decide)) (fa.nf 10 (by decide) (by decide)) (fa.nw 10 (by decide)), FF.binds (ps := ["self", "first"]) (fun _ _ _ _ _ _ us hl => match us, hl with | [_, _], _ => rfl), fun s v z _ => .of_eq rfl⟩, fa.nf 10 (by decide) (by decide), fa.nw 10 (by decide)⟩
    c11 := by
      have FF := fun_mk (st := sI11) l11 c11 k11
      exact ⟨PySem.W.mg_of X G a11, fa.ex 11 (by decide), ⟨f11, _, ⟨fa.ex 11 (by decide), j11, i11⟩, ok_i11 FF (fa.ex 11 (by decide)) (fa.nw 11 (by decide)), fun s v _ => .of_eq rfl⟩, fa.nw 11 (by decide)⟩
    c12 := by
      have FF := fun_mk (st := sI12) l12 c12 k12
      exact ⟨PySem.W.mg_of X G a12, fa.ex 12 (by decide), ⟨f12, _, ⟨fa.ex 12 (by decide), j12, i12⟩, ok_i12 FF (fa.ex 12 (by decide)) (fa.nw 12 (by decide)), fun s v _ => .of_eq rfl⟩, fa.nw 12 (by decide)⟩
    c13 := by
      have FF := fun_mk (st := sI13) l13 c13 k13
      exact ⟨PySem.W.mg_of X G a13, fa.ex 13 (by decide), ⟨f13, _, ⟨fa.ex 13 (by decide), j13, i13⟩, ok_i13 FF (fa.ex 13 (by decide)) (fa.nf 13 (by decide) (by decide)) (fa.nw 13 (by decide)), FF.binds (ps := ["self", "bound"]) (fun _ _ _ _ _ _ us hl => match us, hl with | [_, _], _ => rfl), fun s v z _ => .of_eq rfl⟩, fa.nf 13 (by decide) (by decide), fa.nw 13 (by decide)⟩
    c14 := by
      have FF := fun_mk (st := sI14) l14 c14 k14
      exact ⟨PySem.W.mg_of X G a14, fa.ex 14 (by decide), ⟨f14, _, ⟨fa.ex 14 (by decide), j14, i14⟩, ok_i14 FF (fa.ex 14 (by decide)) (fa.nf 14 (by decide) (by decide)) (fa.nw 14 (by decide)), FF.binds (ps := ["self", "name"]) (fun _ _ _ _ _ _ us hl => match us, hl with | [_, _], _ => rfl), fun s v z _ => .of_eq rfl⟩, fa.nf 14 (by decide) (by decide), fa.nw 14 (by decide)⟩
    c15 := by
      have FF := fun_mk (st := sI15) l15 c15 k15
      exact ⟨PySem.W.mg_of X G a15, fa.ex 15 (by decide), ⟨f15, _, ⟨fa.ex 15 (by decide), j15, i15⟩, ok_i15 FF (fa.ex 15 (by decide)) (fa.nf 15 (by decide) (by decide)) (fa.nw 15 (by decide)), FF.binds (ps := ["self", "bound"]) (fun _ _ _ _ _ _ us hl => match us, hl with | [_, _], _ => rfl), fun s v z _ => .of_eq rfl⟩, fa.nf 15 (by decide) (by decide), fa.nw 15 (by decide)⟩
    c16 := by
      have FF := fun_mk (st := sI16) l16 c16 k16
      exact ⟨PySem.W.mg_of X G a16, fa.ex 16 (by decide), ⟨f16, _, ⟨fa.ex 16 (by decide), j16, i16⟩, ok_i16 FF (fa.ex 16 (by decide)) (fa.nf 16 (by decide) (by decide)) (fa.nw 16 (by decide)), FF.binds (ps := ["self", "name"]) (fun _ _ _ _ _ _ us hl => match us, hl with | [_, _], _ => rfl), fun s v z _ => .of_eq rfl⟩, fa.nf 16 (by decide) (by decide), fa.nw 16 (by decide)⟩
    c17 := by
      have FF := fun_mk (st := sI17) l17 c17 k17
      exact ⟨PySem.W.mg_of X G a17, fa.ex 17 (by decide), ⟨f17, _, ⟨fa.ex 17 (by decide), j17, i17⟩, ok_i17 FF (fa.ex 17 (by decide)) (fa.nf 17 (by decide) (by decide)) (fa.nw 17 (by decide)), FF.binds (ps := ["self", "tie"]) (fun _ _ _ _ _ _ us hl => match us, hl with | [_, _], _ => rfl), fun s v z _ => .of_eq rfl⟩, fa.nf 17 (by decide) (by decide), fa.nw 17 (by decide)⟩
    c18 := by
      have FF := fun_mk (st := sI18) l18 c18 k18
      exact ⟨PySem.W.mg_of X G a18, fa.ex 18 (by decide), ⟨f18, _, ⟨fa.ex 18 (by decide), j18, i18⟩, ok_i18 FF (fa.ex 18 (by decide)) (fa.nf 18 (by decide) (by decide)) (fa.nw 18 (by decide)), FF.binds (ps := ["self", "name"]) (fun _ _ _ _ _ _ us hl => match us, hl with | [_, _], _ => rfl), fun s v z _ => .of_eq rfl⟩, fa.nf 18 (by decide) (by decide), fa.nw 18 (by decide)⟩
    c19 := by
      have FF := fun_mk (st := sI19) l19 c19 k19
      exact ⟨PySem.W.mg_of X G a19, fa.ex 19 (by decide), ⟨f19, _, ⟨fa.ex 19 (by decide), j19, i19⟩, ok_i19 FF (fa.ex 19 (by decide)) (fa.nf 19 (by decide) (by decide)) (fa.nw 19 (by decide)), FF.binds (ps := ["self", "name"]) (fun _ _ _ _ _ _ us hl => match us, hl with | [_, _], _ => rfl), fun s v z _ => .of_eq rfl⟩, fa.nf 19 (by decide) (by decide), fa.nw 19 (by decide)⟩
    c20 := by
      have FF := fun_mk (st := sI20) l20 c20 k20
      exact ⟨PySem.W.mg_of X G a20, fa.ex 20 (by decide), ⟨f20, _, ⟨fa.ex 20 (by decide), j20, i20⟩, ok_i20 FF (fa.ex 20 (by decide)) (fa.nf 20 (by decide) (by decide)) (fa.nw 20 (by decide)), FF.binds (ps := ["self", "name"]) (fun _ _ _ _ _ _ us hl => match us, hl with | [_, _], _ => rfl), fun s v z _ => .of_eq rfl⟩, fa.nf 20 (by decide) (by decide), fa.nw 20 (by decide)⟩
    c21 := by
      have FF := fun_mk (st := sI21) l21 c21 k21
      exact ⟨PySem.W.mg_of X G a21, fa.ex 21 (by decide), ⟨f21, _, ⟨fa.ex 21 (by decide), j21, i21⟩, ok_i21 FF (fa.ex 21 (by decide)) (fa.nf 21 (by decide) (by decide)) (fa.nw 21 (by decide)), FF.binds (ps := ["self", "name"]) (fun _ _ _ _ _ _ us hl => match us, hl with | [_, _], _ => rfl), fun s v z _ => .of_eq rfl⟩, fa.nf 21 (by decide) (by decide), fa.nw 21 (by decide)⟩
    c22 := by
      have FF := fun_mk (st := sI22) l22 c22 k22
      exact ⟨PySem.W.mg_of X G a22, fa.ex 22 (by decide), ⟨f22, _, ⟨fa.ex 22 (by decide), j22, i22⟩, ok_i22 FF (fa.ex 22 (by decide)) (fa.nf 22 (by decide) (by decide)) (fa.nw 22 (by decide)), FF.binds (ps := ["self", "tie"]) (fun _ _ _ _ _ _ us hl => match us, hl with | [_, _], _ => rfl), fun s v z _ => .of_eq rfl⟩, fa.nf 22 (by decide) (by decide), fa.nw 22 (by decide)⟩
    c23 := by
      have FF := fun_mk (st := sI23) l23 c23 k23
      exact ⟨PySem.W.mg_of X G a23, fa.ex 23 (by decide), ⟨f23, _, ⟨fa.ex 23 (by decide), j23, i23⟩, ok_i23 FF (fa.ex 23 (by decide)) (fa.nw 23 (by decide)), fun s v _ => .of_eq rfl⟩, fa.nw 23 (by decide)⟩
  }
  have o_sAll : Df l.prog w K mg base 4 "_law_all" ["_law_number", "_law_text", "_law_my_tie"] (spAll _) f_sAll _ := ⟨ok_all F_sAll c, PySem.W.mg_of X G a_sAll, k_sAll, b_sAll⟩
  have o_sField : Df l.prog w K mg base 1 "_law_field" ["_law_e"] (spField K _) f_sField _ := ⟨ok_field F_sField (PySem.W.mg_none_of X G z_isinstance) c, PySem.W.mg_of X G a_sField, k_sField, b_sField⟩
  have o_sFlags : Df l.prog w K mg base 1 "_law_flags" ["_law_e"] (spFlags K _) f_sFlags _ := ⟨ok_flags F_sFlags (PySem.W.mg_none_of X G z_isinstance) c, PySem.W.mg_of X G a_sFlags, k_sFlags, b_sFlags⟩
  exact ok_law F_sLaw bl fa c (PySem.W.mg_of X G aW) (PySem.W.mg_of X G aM) o_sBox o_sTake o_sName o_sArrow o_sAll o_sSame o_sField o_sFlags
end Wb
open PySem PySem.W PyProof.Rows
set_option maxRecDepth 100000 in
set_option maxHeartbeats 0 in
theorem PySem.Challenge.cw_wardweb_k73_refusals_by_themselves_holds : PySem.Challenge.rw_wardweb_k73_refusals_by_themselves.Holds := by
  w_on; o_law; k_head; (case hw => w_witness2)
  k_fill
  refine L2.walk_of (l := PySem.Challenge.rw_wardweb_k73_refusals_by_themselves) (n := 63) (k := 5) (x := "_law_script") (CX := fun _ => L2.CX0) (sp := fun w => Wb.spLaw _) rfl (by decide) rfl ⟨rfl, by decide, by decide⟩ (fun w h Y => PySem.W.kIn_of Y) ?F (fun _ _ a ns hl _ hS => ⟨a, ns, rfl, hS, hl, fun _ => rfl⟩) (fun _ _ _ _ _ h => h)
  case F =>
    intro w mg fa h KX G hmg
    refine' Wb.all_mk KX G hmg ?a_sCopied ?l_sCopied ?c_sCopied ?k_sCopied ?a_sBox ?l_sBox ?c_sBox ?k_sBox ?a_sTake ?l_sTake ?c_sTake ?k_sTake ?a_sOne ?l_sOne ?c_sOne ?k_sOne ?a_sSame ?l_sSame ?c_sSame ?k_sSame ?a_sHue ?l_sHue ?c_sHue ?k_sHue ?a_sArrow ?l_sArrow ?c_sArrow ?k_sArrow ?a_sName ?l_sName ?c_sName ?k_sName ?a_sAll ?l_sAll ?c_sAll ?k_sAll ?a_sFlags ?l_sFlags ?c_sFlags ?k_sFlags ?a_sField ?l_sField ?c_sField ?k_sField ?a_sLaw ?l_sLaw ?c_sLaw ?k_sLaw ?a0 ?j0 ?i0 ?l0 ?c0 ?k0 ?a1 ?j1 ?i1 ?l1 ?c1 ?k1 ?a2 ?j2 ?i2 ?l2 ?c2 ?k2 ?a3 ?j3 ?i3 ?l3 ?c3 ?k3 ?a4 ?j4 ?i4 ?l4 ?c4 ?k4 ?a5 ?j5 ?i5 ?l5 ?c5 ?k5 ?a6 ?j6 ?i6 ?l6 ?c6 ?k6 ?a7 ?j7 ?i7 ?l7 ?c7 ?k7 ?a8 ?j8 ?i8 ?l8 ?c8 ?k8 ?a9 ?j9 ?i9 ?l9 ?c9 ?k9 ?a10 ?j10 ?i10 ?l10 ?c10 ?k10 ?a11 ?j11 ?i11 ?l11 ?c11 ?k11 ?a12 ?j12 ?i12 ?l12 ?c12 ?k12 ?a13 ?j13 ?i13 ?l13 ?c13 ?k13 ?a14 ?j14 ?i14 ?l14 ?c14 ?k14 ?a15 ?j15 ?i15 ?l15 ?c15 ?k15 ?a16 ?j16 ?i16 ?l16 ?c16 ?k16 ?a17 ?j17 ?i17 ?l17 ?c17 ?k17 ?a18 ?j18 ?i18 ?l18 ?c18 ?k18 ?a19 ?j19 ?i19 ?l19 ?c19 ?k19 ?a20 ?j20 ?i20 ?l20 ?c20 ?k20 ?a21 ?j21 ?i21 ?l21 ?c21 ?k21 ?a22 ?j22 ?i22 ?l22 ?c22 ?k22 ?a23 ?j23 ?i23 ?l23 ?c23 ?k23 ?aW ?aM ?z_len ?z_list ?z_range ?z_isinstance ?z_tuple ?z_bool ?z_int ?z_str ?z_all ?z_zip ?z_dict ?z_ValueError ?z_LookupError ?z_IndexError ?ck
    (case a_sCopied => k_is)
    (case l_sCopied => k_is)
    (case c_sCopied => k_is)
    (case k_sCopied => k_is)
    (case a_sBox => k_is)
    (case l_sBox => k_is)
    (case c_sBox => k_is)
    (case k_sBox => k_is)
    (case a_sTake => k_is)
    (case l_sTake => k_is)
    (case c_sTake => k_is)
    (case k_sTake => k_is)
    (case a_sOne => k_is)
    (case l_sOne => k_is)
    (case c_sOne => k_is)
    (case k_sOne => k_is)
    (case a_sSame => k_is)
    (case l_sSame => k_is)
    (case c_sSame => k_is)
    (case k_sSame => k_is)
    (case a_sHue => k_is)
    (case l_sHue => k_is)
    (case c_sHue => k_is)
    (case k_sHue => k_is)
    (case a_sArrow => k_is)
    (case l_sArrow => k_is)
    (case c_sArrow => k_is)
    (case k_sArrow => k_is)
    (case a_sName => k_is)
    (case l_sName => k_is)
    (case c_sName => k_is)
    (case k_sName => k_is)
    (case a_sAll => k_is)
    (case l_sAll => k_is)
    (case c_sAll => k_is)
    (case k_sAll => k_is)
    (case a_sFlags => k_is)
    (case l_sFlags => k_is)
    (case c_sFlags => k_is)
    (case k_sFlags => k_is)
    (case a_sField => k_is)
    (case l_sField => k_is)
    (case c_sField => k_is)
    (case k_sField => k_is)
    (case a_sLaw => k_is)
    (case l_sLaw => k_is)
    (case c_sLaw => k_is)
    (case k_sLaw => k_is)
    (case a0 => k_is)
    (case j0 => k_is)
    (case i0 => k_is)
    (case l0 => k_is)
    (case c0 => k_is)
    (case k0 => k_is)
    (case a1 => k_is)
    (case j1 => k_is)
    (case i1 => k_is)
    (case l1 => k_is)
    (case c1 => k_is)
    (case k1 => k_is)
    (case a2 => k_is)
    (case j2 => k_is)
    (case i2 => k_is)
    (case l2 => k_is)
    (case c2 => k_is)
    (case k2 => k_is)
    (case a3 => k_is)
    (case j3 => k_is)
    (case i3 => k_is)
    (case l3 => k_is)
    (case c3 => k_is)
    (case k3 => k_is)
    (case a4 => k_is)
    (case j4 => k_is)
    (case i4 => k_is)
    (case l4 => k_is)
    (case c4 => k_is)
    (case k4 => k_is)
    (case a5 => k_is)
    (case j5 => k_is)
    (case i5 => k_is)
    (case l5 => k_is)
    (case c5 => k_is)
    (case k5 => k_is)
    (case a6 => k_is)
    (case j6 => k_is)
    (case i6 => k_is)
    (case l6 => k_is)
    (case c6 => k_is)
    (case k6 => k_is)
    (case a7 => k_is)
    (case j7 => k_is)
    (case i7 => k_is)
    (case l7 => k_is)
    (case c7 => k_is)
    (case k7 => k_is)
    (case a8 => k_is)
    (case j8 => k_is)
    (case i8 => k_is)
    (case l8 => k_is)
    (case c8 => k_is)
    (case k8 => k_is)
    (case a9 => k_is)
    (case j9 => k_is)
    (case i9 => k_is)
    (case l9 => k_is)
    (case c9 => k_is)
    (case k9 => k_is)
    (case a10 => k_is)
    (case j10 => k_is)
    (case i10 => k_is)
    (case l10 => k_is)
    (case c10 => k_is)
    (case k10 => k_is)
    (case a11 => k_is)
    (case j11 => k_is)
    (case i11 => k_is)
    (case l11 => k_is)
    (case c11 => k_is)
    (case k11 => k_is)
    (case a12 => k_is)
    (case j12 => k_is)
    (case i12 => k_is)
    (case l12 => k_is)
    (case c12 => k_is)
    (case k12 => k_is)
    (case a13 => k_is)
    (case j13 => k_is)
    (case i13 => k_is)
    (case l13 => k_is)
    (case c13 => k_is)
    (case k13 => k_is)
    (case a14 => k_is)
    (case j14 => k_is)
    (case i14 => k_is)
    (case l14 => k_is)
    (case c14 => k_is)
    (case k14 => k_is)
    (case a15 => k_is)
    (case j15 => k_is)
    (case i15 => k_is)
    (case l15 => k_is)
    (case c15 => k_is)
    (case k15 => k_is)
    (case a16 => k_is)
    (case j16 => k_is)
    (case i16 => k_is)
    (case l16 => k_is)
    (case c16 => k_is)
    (case k16 => k_is)
    (case a17 => k_is)
    (case j17 => k_is)
    (case i17 => k_is)
    (case l17 => k_is)
    (case c17 => k_is)
    (case k17 => k_is)
    (case a18 => k_is)
    (case j18 => k_is)
    (case i18 => k_is)
    (case l18 => k_is)
    (case c18 => k_is)
    (case k18 => k_is)
    (case a19 => k_is)
    (case j19 => k_is)
    (case i19 => k_is)
    (case l19 => k_is)
    (case c19 => k_is)
    (case k19 => k_is)
    (case a20 => k_is)
    (case j20 => k_is)
    (case i20 => k_is)
    (case l20 => k_is)
    (case c20 => k_is)
    (case k20 => k_is)
    (case a21 => k_is)
    (case j21 => k_is)
    (case i21 => k_is)
    (case l21 => k_is)
    (case c21 => k_is)
    (case k21 => k_is)
    (case a22 => k_is)
    (case j22 => k_is)
    (case i22 => k_is)
    (case l22 => k_is)
    (case c22 => k_is)
    (case k22 => k_is)
    (case a23 => k_is)
    (case j23 => k_is)
    (case i23 => k_is)
    (case l23 => k_is)
    (case c23 => k_is)
    (case k23 => k_is)
    (case aW => k_is)
    (case aM => k_is)
    (case z_len => k_is)
    (case z_list => k_is)
    (case z_range => k_is)
    (case z_isinstance => k_is)
    (case z_tuple => k_is)
    (case z_bool => k_is)
    (case z_int => k_is)
    (case z_str => k_is)
    (case z_all => k_is)
    (case z_zip => k_is)
    (case z_dict => k_is)
    (case z_ValueError => k_is)
    (case z_LookupError => k_is)
    (case z_IndexError => k_is)
    (case ck => kernel_rfl)
