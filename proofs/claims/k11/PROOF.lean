import PyProof.Rows.All
import Wide.All
import OpenK.AllK
import Wide.FinOn
import HandS.ForMost
import HandS.Wide
import HandS.Codes
import HandS.Walk
import HandS.Zip
import HandS.IsInst
import HandS.TupSets
import HandS.SortOrd
import KE.GoesMore
import KE.GoesEnum
import PyProof.ListStr
import HandS.SetKeys
import HandS.Conv
import PyProof.DictMoreH
import HandS.Defaults
import HandS.MakeKwOnly
import HandS.Exc
import HandS.TryOnly
import HandS.TryMany
import HandS.ExcField
import HandS.ExcInit
import HandS.WordsExc
import HandS.Lambda
import HandS.EndTab
import HandS.ExcOwn
import HandS.DictComp
import HandS.Deep
import HandS.EndOwn
import KE.KNestM
import HandS.Star
import HandS.TupLe
import HandS.Dict
import HandS.WordsDict
import HandS.OwnEq
import PyProof.InstNe
import OpenK.KOps
import HandS.MapJoin
import HandS.TupAny
import PySem.Challenge.RW_wardweb_k11_beside_and_times
set_option Elab.async false
set_option linter.all false
set_option maxRecDepth 100000
namespace Wb
open PySem PySem.Spec PyProof.Rows L2
def topS (i : Nat) : Stmt := PySem.Challenge.pw_wardweb_k11_beside_and_times.main.body.getD i (.Pass ⟨0, 0, 0, 0⟩)
abbrev sBox : Stmt := topS 24
abbrev sTake : Stmt := topS 25
abbrev sOne : Stmt := topS 26
/-! ### the drawing box -/
def bxO (q : Addr) (i r k : Int) : HO := .lst [.ref q, .int i, .int r, .int k]
def Bx (H : Hp) (b q : Addr) : Prop := ∃ (ns : List Int) (i r k : Int), H b = some (bxO q i r k) ∧ H q = some (.lst (ns.map V.int)) ∧ 0 ≤ i ∧ 0 ≤ r ∧ 0 ≤ k ∧ k < 2147483563
/-- all but b stands as it stood -/
def Kp (b : Addr) (H H' : Hp) : Prop := ∀ c, c ≠ b → H' c = H c
theorem box_ne {H : Hp} {b q : Addr} {ns : List Int} {i r k : Int} (hb : H b = some (bxO q i r k)) (hq : H q = some (.lst (ns.map V.int))) : q ≠ b := fun e => by
  subst e
  rw [hb] at hq
  injection hq with hq
  injection hq with hq
  cases ns with
  | nil => cases hq
  | cons n r => cases hq
section
variable {P : Program} {w : World} {K : PySem.W.Frag} {mg : Str → Option Value} {base : Heap}
def spTake : Sp := fun vs H Q _ => ∃ (b q : Addr) (many : Int), vs = [.ref b, .int many] ∧ Bx H b q ∧ 0 < many ∧ many < 2 ^ 100 ∧ ∀ v H', 0 ≤ v → v < many → Bx H' b q → Kp b H H' → Q (.int v) H'
theorem scT : FnScope ["_law_box_here", "_law_many", "_law_cell", "_law_got", "_law_seed"] ["_law_box_here", "_law_many"] (defScope sTake) := ⟨rfl, rfl, rfl, by decide +kernel, rfl, by decide +kernel, by decide +kernel⟩
theorem ok_take {f : Addr} {fd : FuncData} (F : Fun K "_law_take" "_law_take" sTake f fd) (ml : mg "len" = none) : FnOk P w K mg base CX0 1 f fd ["_law_box_here", "_law_many"] spTake := by
  refine F.ok scT (fun vs H Q E h => ?_) (fun cdv A outer s H vs Q E hr h => ?_)
  · obtain ⟨b, q, many, rfl, _⟩ := h
    rfl
  · obtain ⟨b, q, many, rfl, ⟨ns, i, r, k, hb, hq, hi, hr0, hk, hk2⟩, hm, hm2, K1⟩ := h
    refine ⟨_, C8.pss_cut (ps_if (PW.pt (pw_and (pt_cmpR op_eq (pe_ix ix_list (pv 0) pe_int (fun _ _ => rfl)) pe_int (nomark _)) (pw_and1 (pt_cmpR op_lt (pe_ix ix_list (pv 0) pe_int (fun _ _ => rfl)) (pe_callB call_len_seq (by rfl) ml PySem.boot_len (pa_cons (pe_ix ix_list (pv 0) pe_int (fun _ _ => rfl)) pa_nil)) (nomark _)))))
        (pss_cons (ps_set (i := 2) scT.nd rfl (.inl rfl) (pe_ix ix_list (pe_ix ix_list (pv 0) pe_int (fun _ _ => rfl)) (pe_ix ix_list (pv 0) pe_int (fun _ _ => rfl)) (fun _ _ => rfl)))
        (pss_cons (ps_asg (pe_op op_add (pe_ix ix_list (pv 0) pe_int (fun _ _ => rfl)) pe_int) (pg_sub (pv 0) pe_int set_list))
        (pss_one (ps_if (pt_cmpR op_ge (pv 2) (pe_op op_pow pe_int pe_int) (nomark _))
          (pss_one (ps_asg (pv 2) (pg_sub (pv 0) pe_int set_list)))
          (pss_one (ps_asg (pe_op op_mod (pe_op op_add (pe_op op_add (pe_op op_mul (pe_ix ix_list (pv 0) pe_int (fun _ _ => rfl)) pe_int) (pe_op op_mul (pe_op op_mod (pv 2) pe_int) pe_int)) (pe_ix ix_list (pv 0) pe_int (fun _ _ => rfl))) pe_int) (pg_sub (pv 0) pe_int set_list))))))) pss_nil)
      (pss_cons (ps_if (pt_cmpR op_gt (pe_ix ix_list (pv 0) pe_int (fun _ _ => rfl)) pe_int (nomark _))
        (pss_cons (ps_set (i := 3) scT.nd rfl (.inl rfl) (pe_op op_mod (pe_ix ix_list (pv 0) pe_int (fun _ _ => rfl)) (pv 1)))
        (pss_cons (ps_asg (pe_op op_fdivW (pe_ix ix_list (pv 0) pe_int (fun _ _ => rfl)) (pv 1)) (pg_sub (pv 0) pe_int set_list))
        (pss_one (ps_ret (pv 3))))) pss_nil)
      (pss_cons (ps_set (i := 4) scT.nd rfl (.inl rfl) (pe_ix ix_list (pv 0) pe_int (fun _ _ => rfl)))
      (pss_cons (ps_asg (pe_op op_mod (pe_op op_add (pe_op op_add (pe_op op_mul (pv 4) (pv 4)) (pe_op op_mul (pv 4) pe_int)) pe_int) pe_int) (pg_sub (pv 0) pe_int set_list))
      (pss_one (ps_ret (pe_op op_mod (pe_op op_add (pe_op op_fdiv (pe_ix ix_list (pv 0) pe_int (fun _ _ => rfl)) pe_int) (pe_op op_mul (pe_op op_mod (pe_ix ix_list (pv 0) pe_int (fun _ _ => rfl)) pe_int) pe_int)) (pv 1))))))), ?_⟩
    refine ⟨fun σ' H' => ∃ y2 y3 y4 i' r' k', σ' = [some (.ref b), some (.int many), y2, y3, y4] ∧ H' = upd H b (bxO q i' r' k') ∧ 0 ≤ i' ∧ 0 ≤ r' ∧ 0 ≤ k' ∧ k' < 2147483563, ?_, ?_⟩
    · have own : H = upd H b (bxO q i r k) := by
        funext c
        by_cases e : c = b
        · rw [e, upd_same, hb]
        · rw [upd_ne e]
      refine ⟨_, rfl, b, _, 2, .int r, rfl, rfl, SqL.of hb, atI_nat (j := 2) rfl, rfl, _, rfl, ?_⟩
      refine ite2 (fun e1 => ?_) (fun e1 => ?_)
      · refine ⟨_, rfl, b, _, 1, .int i, rfl, rfl, SqL.of hb, atI_nat (j := 1) rfl, _, rfl, b, _, 0, .ref q, rfl, rfl, SqL.of hb, atI_nat (j := 0) rfl, q, _, rfl, .inl (SqL.of hq), _, _, rfl, rfl, _, rfl, ?_⟩
        refine ite2 (fun e2 => ?_) (fun e2 => ?_)
        · have hlt : i < ((ns.map V.int).length : Int) := of_decide_eq_true e2
          have hj : i.toNat < ns.length := by
            rw [List.length_map] at hlt
            omega
          have gi : atI (ns.map V.int) i = some (.int ns[i.toNat]) := at_of (j := i.toNat) (by omega) (by
            rw [List.getElem?_map, List.getElem?_eq_getElem hj]
            rfl)
          have nqb : q ≠ b := box_ne hb hq
          -- cell = box[0][box[1]]
          refine ⟨_, rfl, b, _, 0, .ref q, rfl, rfl, SqL.of hb, atI_nat (j := 0) rfl, _, rfl, b, _, 1, .int i, rfl, rfl, SqL.of hb, atI_nat (j := 1) rfl, q, _, i, _, rfl, rfl, SqL.of hq, gi, ?_⟩
          -- box[1] = box[1] + 1
          refine ⟨_, rfl, b, _, 1, .int i, rfl, rfl, SqL.of hb, atI_nat (j := 1) rfl, _, _, rfl, rfl, _, rfl, b, _, 1, 1, rfl, rfl, hb, rfl, ?_⟩
          refine ⟨_, rfl, 10, 18, rfl, rfl, ⟨by decide, by decide, by decide⟩, _, _, rfl, rfl, _, rfl, ?_⟩
          refine ite2 (fun e3 => ?_) (fun e3 => ?_)
          · have h3 : (10 : Int) ^ (18 : Int).toNat ≤ ns[i.toNat] := of_decide_eq_true e3
            refine ⟨_, rfl, _, rfl, b, _, 2, 2, rfl, rfl, upd_same, rfl, ?_⟩
            refine ⟨_, _, _, i + 1, ns[i.toNat], k, rfl, ?_, by omega, ?_, hk, hk2⟩
            · rw [upd_upd]
              rfl
            · have : (0 : Int) ≤ (10 : Int) ^ (18 : Int).toNat := by decide
              omega
          · refine ⟨_, rfl, b, _, 3, .int k, rfl, rfl, SqL.of upd_same, atI_nat (j := 3) rfl, k, 40692, rfl, rfl, .inr ⟨by decide, by decide⟩, _, rfl, _, 2147483563, rfl, rfl, (by show (0 : Int) < 2147483563; decide), _, 53, rfl, rfl, .inr ⟨by decide, by decide⟩, _, _, rfl, rfl, _, rfl, b, _, 1, .int (i + 1), rfl, rfl, SqL.of upd_same, atI_nat (j := 1) rfl, _, _, rfl, rfl, _, 2147483563, rfl, rfl, (by show (0 : Int) < 2147483563; decide), ?_⟩
            refine ⟨_, rfl, b, _, 3, 3, rfl, rfl, upd_same, rfl, ?_⟩
            refine ⟨_, _, _, i + 1, r, _, rfl, by rw [upd_upd]; rfl, by omega, hr0, Int.emod_nonneg _ (by decide), Int.emod_lt_of_pos _ (by decide)⟩
        · exact ⟨_, _, _, i, r, k, rfl, own, hi, hr0, hk, hk2⟩
      · exact ⟨_, _, _, i, r, k, rfl, own, hi, hr0, hk, hk2⟩
    · rintro σ' H' ⟨y2, y3, y4, i', r', k', rfl, rfl, hi', hr', hk', hk2'⟩
      have nqb : q ≠ b := box_ne hb hq
      have hq' : ∀ o, (upd H b o) q = some (.lst (ns.map V.int)) := fun o => by
        rw [upd_ne nqb]
        exact hq
      have kp : ∀ o, Kp b H (upd H b o) := fun o c hc => upd_ne hc
      refine ⟨_, rfl, b, _, 2, .int r', rfl, rfl, SqL.of upd_same, atI_nat (j := 2) rfl, _, _, rfl, rfl, _, rfl, ?_⟩
      refine ite2 (fun e1 => ?_) (fun e1 => ?_)
      · refine ⟨_, rfl, b, _, 2, .int r', rfl, rfl, SqL.of upd_same, atI_nat (j := 2) rfl, _, rfl, _, _, rfl, rfl, hm, ?_⟩
        refine ⟨_, rfl, b, _, 2, .int r', rfl, rfl, SqL.of upd_same, atI_nat (j := 2) rfl, _, rfl, _, _, rfl, rfl, wide_div (b := 100) hm (by omega) (by decide) (by decide), ?_⟩
        refine ⟨_, rfl, b, _, 2, 2, rfl, rfl, upd_same, rfl, _, rfl, ?_⟩
        rw [upd_upd]
        exact K1 _ _ (Int.emod_nonneg _ (by omega)) (Int.emod_lt_of_pos _ hm) ⟨ns, i', r' / many, k', upd_same, hq' _, hi', Int.ediv_nonneg hr' (by omega), hk', hk2'⟩ (kp _)
      · refine ⟨_, rfl, b, _, 3, .int k', rfl, rfl, SqL.of upd_same, atI_nat (j := 3) rfl, ?_⟩
        have hb1 : (-(2 ^ 64) < k' ∧ k' < 2 ^ 64) := ⟨by omega, by omega⟩
        refine ⟨_, rfl, _, rfl, _, _, rfl, rfl, .inl hb1, _, rfl, _, 39373, rfl, rfl, .inl hb1, _, _, rfl, rfl, _, 90001, rfl, rfl, _, 2147483563, rfl, rfl, (by show (0 : Int) < 2147483563; decide), ?_⟩
        refine ⟨_, rfl, b, _, 3, 3, rfl, rfl, upd_same, rfl, ?_⟩
        have z1 := Int.emod_nonneg (k' * k' + k' * 39373 + 90001) (show (2147483563 : Int) ≠ 0 by decide)
        have z2 := Int.emod_lt_of_pos (k' * k' + k' * 39373 + 90001) (show (0 : Int) < 2147483563 by decide)
        refine ⟨_, rfl, b, _, 3, _, rfl, rfl, SqL.of upd_same, atI_nat (j := 3) rfl, _, 59, rfl, rfl, ⟨by decide, by decide⟩, _, rfl, b, _, 3, _, rfl, rfl, SqL.of upd_same, atI_nat (j := 3) rfl, _, 8117, rfl, rfl, (by show (0 : Int) < 8117; decide), _, 211, rfl, rfl, .inr ⟨by decide, by decide⟩, _, _, rfl, rfl, _, rfl, _, _, rfl, rfl, hm, ?_⟩
        rw [upd_upd]
        exact K1 _ _ (Int.emod_nonneg _ (by omega)) (Int.emod_lt_of_pos _ hm) ⟨ns, i', r', _, upd_same, hq' _, hi', hr', z1, z2⟩ (kp _)
end
end Wb
namespace Wb
open PySem PySem.Spec PyProof.Rows L2
abbrev sHue : Stmt := topS 30
abbrev sArrow : Stmt := topS 32
theorem same_upd {H : Hp} {p : Addr} {o : HO} (h : H p = none) : Same H (upd H p o) := fun b x e => by
  rw [upd_ne (ne_of_none e h)]
  exact e
def Xt (b : Addr) (H H' : Hp) : Prop := ∀ c o, c ≠ b → H c = some o → H' c = some o
theorem Xt.refl (b : Addr) (H : Hp) : Xt b H H := fun _ _ _ h => h
theorem Xt.trans {b : Addr} {H H1 H2 : Hp} (x : Xt b H H1) (y : Xt b H1 H2) : Xt b H H2 := fun c o hc h => y c o hc (x c o hc h)
theorem Xt.new {b : Addr} {H H1 : Hp} {p : Addr} {o : HO} (x : Xt b H H1) (h : H1 p = none) : Xt b H (upd H1 p o) := fun c u hc e => by
  have q := x c u hc e
  rw [upd_ne (ne_of_none q h)]
  exact q
theorem Kp.xt {b : Addr} {H H' : Hp} (x : Kp b H H') : Xt b H H' := fun c o hc h => by
  rw [x c hc]
  exact h
theorem Same.xt {b : Addr} {H H' : Hp} (x : Same H H') : Xt b H H' := fun c o _ h => x c o h
theorem Bx.some {H : Hp} {b q : Addr} (x : Bx H b q) : ∃ o, H b = some o := by
  obtain ⟨ns, i, r, k, hb, _⟩ := x
  exact ⟨_, hb⟩
theorem Bx.new {H : Hp} {b q p : Addr} {o : HO} (x : Bx H b q) (h : H p = none) : Bx (upd H p o) b q := by
  obtain ⟨ns, i, r, k, hb, hq, z⟩ := x
  exact ⟨ns, i, r, k, by rw [upd_ne (ne_of_none hb h)]; exact hb, by rw [upd_ne (ne_of_none hq h)]; exact hq, z⟩
theorem Xt.free {b : Addr} {H H' : Hp} (x : Xt b H H') {p : Addr} (hb : p ≠ b) (h : H' p = none) : H p = none := by
  cases e : H p with
  | none => rfl
  | some o =>
    rw [x p o hb e] at h
    cases h
theorem Bx.ne {H : Hp} {b q p : Addr} (x : Bx H b q) (h : H p = none) : p ≠ b := fun e => by
  obtain ⟨o, ho⟩ := x.some
  rw [e, ho] at h
  cases h
theorem Bx.neq {H : Hp} {b q p : Addr} (x : Bx H b q) (h : H p = none) : p ≠ q := fun e => by
  obtain ⟨ns, i, r, k, hb, hq, _⟩ := x
  rw [e, hq] at h
  cases h
theorem Bx.upd {H : Hp} {b q p : Addr} {o : HO} (x : Bx H b q) (h1 : p ≠ b) (h2 : p ≠ q) : Bx (upd H p o) b q := by
  obtain ⟨ns, i, r, k, hb, hq, z⟩ := x
  exact ⟨ns, i, r, k, by rw [upd_ne h1.symm]; exact hb, by rw [upd_ne h2.symm]; exact hq, z⟩
theorem sum_ones : ∀ ys : List Str, (∀ y ∈ ys, y.length = 1) → (ys.map (·.length)).sum = ys.length
  | [], _ => rfl
  | y :: r, h => by
    rw [List.map_cons, List.sum_cons, sum_ones r fun z hz => h z (List.mem_cons_of_mem _ hz), h y List.mem_cons_self, List.length_cons]
    omega
/-- a list other than the box stays one -/
theorem Xt.sql {K : PySem.W.Frag} {b : Addr} {H H' : Hp} (x : Xt b H H') {p : Addr} (hb : p ≠ b) {xs : List V} (h : SqL K H p xs) : SqL K H' p xs := by
  rcases h with (h | ⟨o, h⟩) | h
  · exact .inl (.inl (x _ _ hb h))
  · exact .inl (.inr ⟨o, x _ _ hb h⟩)
  · exact .inr h
theorem cut63 {xs : List V} (h : xs.length ≤ 63) : cutV xs none (some 63) = xs := by
  unfold cutV
  rw [HT.sIx_none, show HT.sIx xs.length xs.length (some 63) = min 63 xs.length from HT.sIx_nat xs.length xs.length 63, List.drop_zero, Nat.sub_zero, show min 63 xs.length = xs.length by omega, List.take_length]
section
variable {P : Program} {w : World} {K : PySem.W.Frag} {mg : Str → Option Value} {base : Heap}
/-! ### the box made -/
def spBox (K : PySem.W.Frag) : Sp := fun vs H Q _ => ∃ (a : Addr) (ns : List Int), vs = [.ref a] ∧ SqL K H a (ns.map V.int) ∧ ns.length ≤ 63 ∧ ∀ p q H', H p = none → Bx H' p q → Same H H' → Q (.ref p) H'
theorem scB : FnScope ["_law_script", "_law_knot", "_law_cell"] ["_law_script"] (defScope sBox) := ⟨rfl, rfl, rfl, by decide +kernel, rfl, by decide +kernel, by decide +kernel⟩
theorem ok_box {f : Addr} {fd : FuncData} (F : Fun K "_law_box" "_law_box" sBox f fd) (ml : mg "len" = none) (mli : mg "list" = none) : FnOk P w K mg base CX0 1 f fd ["_law_script"] (spBox K) := by
  refine F.ok scB (fun vs H Q E h => ?_) (fun cdv A outer s H vs Q E hr h => ?_)
  · obtain ⟨a, ns, rfl, _⟩ := h
    rfl
  · obtain ⟨a, ns, rfl, hS, hlen, K1⟩ := h
    refine ⟨_, pss_cons (ps_set (i := 1) scB.nd rfl (.inl rfl) (pe_op op_add pe_int (pe_op op_mul pe_int (pe_callB call_len_seq (by rfl) ml PySem.boot_len (pa_cons (pe_slice sl_list (pv 0) po_none (po_some pe_int)) pa_nil)))))
      (pss_cons (ps_for PassesOwn.never rfl (pi_list (pe_slice sl_list (pv 0) po_none (po_some pe_int))) (pg_name (i := 2) scB.nd rfl (.inl rfl))
        (pss_one (ps_set (i := 1) scB.nd rfl (.inl rfl) (pe_op op_mod (pe_op op_add (pe_op op_add (pe_op op_mul (pv 1) pe_int) (pe_op op_mod (pv 2) pe_int)) pe_int) pe_int))))
      (pss_one (ps_ret (pe_lst (pa_cons (pe_callTy call_list_of (by rfl) mli boot_list (pa_cons (pe_slice sl_list (pv 0) po_none (po_some pe_int)) pa_nil)) (pa_cons pe_int (pa_cons pe_int (pa_cons (pv 1) pa_nil)))))))), ?_⟩
    have hL : (ns.map V.int).length ≤ 63 := by
      rw [List.length_map]
      exact hlen
    -- the first slice, its length
    refine ⟨_, rfl, 63, rfl, a, _, rfl, hS, fun p1 n1 => ?_⟩
    have s1 : Same H (upd H p1 (.lst (cutV (ns.map V.int) none (some 63)))) := same_upd n1
    refine ⟨p1, _, rfl, .inl (SqL.of upd_same), 61, _, rfl, rfl, .inl ⟨by decide, by decide⟩, 9147, _, rfl, rfl, ?_⟩
    generalize hH1 : upd H p1 (.lst (cutV (ns.map V.int) none (some 63))) = H1 at s1 ⊢
    -- the second slice, the loop
    refine ⟨_, rfl, 63, rfl, a, _, rfl, s1.seq hS, fun p2 n2 => ?_⟩
    have s2 : Same H1 (upd H1 p2 (.lst (cutV (ns.map V.int) none (some 63)))) := same_upd n2
    rw [cut63 hL] at s2 ⊢
    have e2 : (upd H1 p2 (.lst (ns.map V.int))) p2 = some (.lst (ns.map V.int)) := upd_same
    generalize upd H1 p2 (.lst (ns.map V.int)) = H2 at s2 e2 ⊢
    refine ⟨p2, rfl, ⟨_, SqL.of e2⟩, for_list (xs := ns.map V.int) (fun i σ H' => ∃ k y, σ = [some (.ref a), some (.int k), y] ∧ H' = H2 ∧ 0 ≤ k ∧ k < 2147483563) ?_ ?_ ?_ ?_⟩
    · refine ⟨_, _, rfl, rfl, ?_, ?_⟩
      · omega
      · omega
    · rintro i σ H' _ ⟨k, y, _, rfl, _⟩
      exact SqL.of e2
    · rintro i x σ H' hx ⟨k, y, rfl, rfl, hk0, hk1⟩
      obtain ⟨z, rfl⟩ : ∃ z, x = V.int z := by
        rw [List.getElem?_map] at hx
        cases e : ns[i]? with
        | none =>
          rw [e] at hx
          cases hx
        | some z =>
          rw [e] at hx
          exact ⟨z, (Option.some.inj hx).symm⟩
      refine ⟨_, rfl, k, 40014, rfl, rfl, .inr ⟨by decide, by decide⟩, _, rfl, z, 2147483563, rfl, rfl, (by show (0 : Int) < 2147483563; decide), _, _, rfl, rfl, _, 7, rfl, rfl, _, 2147483563, rfl, rfl, (by show (0 : Int) < 2147483563; decide), ?_⟩
      exact ⟨_, _, rfl, rfl, Int.emod_nonneg _ (by decide), Int.emod_lt_of_pos _ (by decide)⟩
    · rintro σ H' ⟨k, y, rfl, rfl, hk0, hk1⟩
      -- the end
      refine ⟨_, rfl, 63, rfl, a, _, rfl, s2.seq (s1.seq hS), fun p3 n3 => ?_⟩
      have s3 : Same H' (upd H' p3 (.lst (cutV (ns.map V.int) none (some 63)))) := same_upd n3
      rw [cut63 hL] at s3 ⊢
      have e3 : (upd H' p3 (.lst (ns.map V.int))) p3 = some (.lst (ns.map V.int)) := upd_same
      generalize upd H' p3 (.lst (ns.map V.int)) = H3 at s3 e3 ⊢
      refine ⟨p3, _, rfl, .inl (SqL.of e3), fun p4 n4 => ?_⟩
      have s4 : Same H3 (upd H3 p4 (.lst (ns.map V.int))) := same_upd n4
      have e4 : (upd H3 p4 (.lst (ns.map V.int))) p4 = some (.lst (ns.map V.int)) := upd_same
      generalize upd H3 p4 (.lst (ns.map V.int)) = H4 at s4 e4 ⊢
      refine ⟨_, rfl, by show 4 ≤ sizeLine; decide, fun p5 n5 => ?_⟩
      have s5 := ((s1.trans s2).trans s3).trans s4
      exact K1 p5 p4 _ (s5.free n5) ⟨ns, 0, 0, k, upd_same, by rw [upd_ne (ne_of_none e4 n5)]; exact e4, by decide, by decide, hk0, hk1⟩ (s5.trans (same_upd n5))
/-! ### one of some -/
def spOne (K : PySem.W.Frag) : Sp := fun vs H Q _ =>
  (∃ (b q p : Addr) (xs : List V), vs = [.ref b, .ref p] ∧ Bx H b q ∧ SqL K H p xs ∧ p ≠ b ∧ xs ≠ [] ∧ xs.length ≤ 1000 ∧ ∀ v H', v ∈ xs → Bx H' b q → Kp b H H' → Q v H') ∨
  (∃ (b q : Addr) (z : Str), vs = [.ref b, .str z] ∧ Bx H b q ∧ 0 < z.length ∧ z.length ≤ 1000 ∧ ∀ c H', c ∈ z.cps.toList → Bx H' b q → Kp b H H' → Q (.str ⟨#[c]⟩) H')
theorem scO : FnScope ["_law_box_here", "_law_some"] ["_law_box_here", "_law_some"] (defScope sOne) := ⟨rfl, rfl, rfl, by decide +kernel, rfl, by decide +kernel, by decide +kernel⟩
/-- what callers hold of a def -/
structure Df (P : Program) (w : World) (K : PySem.W.Frag) (mg : Str → Option Value) (base : Heap) (k : Nat) (x : Str) (ps : List Str) (sp : Sp) (f : Addr) (fd : FuncData) : Prop where
  ok : FnOk P w K mg base CX0 k f fd ps sp
  gl : mg x = some (.ref f)
  kp : PySem.W.keepIn K (.ref f) = true
  bd : Binds K fd ps []
theorem ok_one {f fT : Addr} {fd fdT : FuncData} (F : Fun K "_law_one" "_law_one" sOne f fd) (ml : mg "len" = none) (T : Df P w K mg base 1 "_law_take" ["_law_box_here", "_law_many"] spTake fT fdT) : FnOk P w K mg base CX0 2 f fd ["_law_box_here", "_law_some"] (spOne K) := by
  refine F.ok scO (fun vs H Q E h => ?_) (fun cdv A outer s H vs Q E hr h => ?_)
  · rcases h with ⟨b, q, p, xs, rfl, _⟩ | ⟨b, q, z, rfl, _⟩ <;> rfl
  · rcases h with ⟨b, q, p, xs, rfl, B, hS, hp, h0, hl, K1⟩ | ⟨b, q, z, rfl, B, h0, hl, K1⟩
    · refine ⟨_, pss_one (ps_ret (pe_ix ix_list (pv 1) (pe_call T.ok hr (by rfl) T.gl T.kp T.bd .nil pass0 (pa_cons (pv 0) (pa_cons (pe_callB call_len_seq (by rfl) ml PySem.boot_len (pa_cons (pv 1) pa_nil)) pa_nil))) (fun _ _ => rfl))), ?_⟩
      have h1 : 0 < xs.length := List.length_pos_iff.mpr h0
      refine ⟨_, rfl, _, rfl, _, rfl, p, _, rfl, .inl hS, b, q, (xs.length : Int), rfl, B, by omega, by omega, fun v H' v0 v1 B' kp => ?_⟩
      have hj : v.toNat < xs.length := by omega
      refine ⟨p, xs, v, xs[v.toNat], rfl, rfl, kp.xt.sql hp hS, at_of (j := v.toNat) (by omega) (List.getElem?_eq_getElem hj), ?_⟩
      exact K1 _ _ (List.getElem_mem hj) B' kp
    · refine ⟨_, pss_one (ps_ret (pe_ix ix_str (pv 1) (pe_call T.ok hr (by rfl) T.gl T.kp T.bd .nil pass0 (pa_cons (pv 0) (pa_cons (pe_callB call_len (by rfl) ml PySem.boot_len (pa_cons (pv 1) pa_nil)) pa_nil))) (fun _ _ => rfl))), ?_⟩
      have hz : z.length ≤ sizeLine := Nat.le_of_lt (small1000 hl)
      refine ⟨_, rfl, _, rfl, _, rfl, _, z.length, rfl, ⟨hz, rfl⟩, b, q, (z.length : Int), rfl, B, by omega, by omega, fun v H' v0 v1 B' kp => ?_⟩
      obtain ⟨j, rfl⟩ : ∃ j : Nat, v = (j : Int) := ⟨v.toNat, by omega⟩
      have hj : j < z.cps.toList.length := by
        rw [Array.length_toList]
        have : z.length = z.cps.size := rfl
        omega
      refine ⟨z, (j : Int), z.cps.toList[j], rfl, rfl, hz, atI_nat (List.getElem?_eq_getElem hj), ?_⟩
      exact K1 _ _ (List.getElem_mem hj) B' kp
/-! ### a colour -/
def spHue : Sp := fun vs H Q _ => ∃ b q, vs = [.ref b] ∧ Bx H b q ∧ ∀ (c : Str) H', c ∈ (["a", "b", "c"] : List Str) → Bx H' b q → Xt b H H' → Q (.str c) H'
theorem scH : FnScope ["_law_box_here"] ["_law_box_here"] (defScope sHue) := ⟨rfl, rfl, rfl, by decide +kernel, rfl, by decide +kernel, by decide +kernel⟩
theorem ok_hue {f fO : Addr} {fd fdO : FuncData} (F : Fun K "_law_hue" "_law_hue" sHue f fd) (O : Df P w K mg base 2 "_law_one" ["_law_box_here", "_law_some"] (spOne K) fO fdO) : FnOk P w K mg base CX0 3 f fd ["_law_box_here"] spHue := by
  refine F.ok scH (fun vs H Q E h => ?_) (fun cdv A outer s H vs Q E hr h => ?_)
  · obtain ⟨b, q, rfl, _⟩ := h
    rfl
  · obtain ⟨b, q, rfl, B, K1⟩ := h
    refine ⟨_, pss_one (ps_ret (pe_call O.ok hr (by rfl) O.gl O.kp O.bd .nil pass0 (pa_cons (pv 0) (pa_cons (pe_lst (pa_cons pe_str (pa_cons pe_str (pa_cons pe_str (pa_cons pe_str (pa_cons pe_str (pa_cons pe_str pa_nil))))))) pa_nil)))), ?_⟩
    refine ⟨_, rfl, by show 6 ≤ sizeLine; decide, fun p np => ?_⟩
    refine .inl ⟨b, q, p, _, rfl, B.new np, SqL.of upd_same, B.ne np, by simp, by show 6 ≤ 1000; decide, fun v H' hv B' kp => ?_⟩
    obtain ⟨c, rfl, hc⟩ : ∃ c : Str, v = .str c ∧ c ∈ (["a", "b", "c"] : List Str) := by
      simp only [List.mem_cons, List.not_mem_nil, or_false] at hv
      rcases hv with rfl | rfl | rfl | rfl | rfl | rfl
      all_goals exact ⟨_, rfl, by simp⟩
    exact K1 c H' hc B' (((Xt.refl b H).new np).trans kp.xt)
/-! ### an arrow -/
def spArrow : Sp := fun vs H Q _ => ∃ (b q : Addr) (m : Int), vs = [.ref b, .int m] ∧ Bx H b q ∧ 0 < m ∧ m < 2 ^ 100 ∧
  ∀ (p : Addr) (c : Str) (x y : Int) H', H p = none → p ≠ b → H' p = some (.tup [.str c, .int x, .int y]) → c ∈ (["a", "b", "c"] : List Str) → 0 ≤ x → x < m → 0 ≤ y → y < m → Bx H' b q → Xt b H H' → Q (.ref p) H'
theorem scA : FnScope ["_law_box_here", "_law_many"] ["_law_box_here", "_law_many"] (defScope sArrow) := ⟨rfl, rfl, rfl, by decide +kernel, rfl, by decide +kernel, by decide +kernel⟩
theorem ok_arrow {f fH fT : Addr} {fd fdH fdT : FuncData} (F : Fun K "_law_arrow" "_law_arrow" sArrow f fd) (G : Df P w K mg base 3 "_law_hue" ["_law_box_here"] spHue fH fdH) (T : Df P w K mg base 1 "_law_take" ["_law_box_here", "_law_many"] spTake fT fdT) : FnOk P w K mg base CX0 4 f fd ["_law_box_here", "_law_many"] spArrow := by
  refine F.ok scA (fun vs H Q E h => ?_) (fun cdv A outer s H vs Q E hr h => ?_)
  · obtain ⟨b, q, m, rfl, _⟩ := h
    rfl
  · obtain ⟨b, q, m, rfl, B, hm, hm2, K1⟩ := h
    refine ⟨_, pss_one (ps_ret (pe_tup (pa_cons (pe_call G.ok hr (by rfl) G.gl G.kp G.bd .nil pass0 (pa_cons (pv 0) pa_nil)) (pa_cons (pe_call T.ok (hr.mono (by decide)) (by rfl) T.gl T.kp T.bd .nil pass0 (pa_cons (pv 0) (pa_cons (pv 1) pa_nil))) (pa_cons (pe_call T.ok (hr.mono (by decide)) (by rfl) T.gl T.kp T.bd .nil pass0 (pa_cons (pv 0) (pa_cons (pv 1) pa_nil))) pa_nil))))), ?_⟩
    refine ⟨_, rfl, b, q, rfl, B, fun c H1 hc B1 x1 => ?_⟩
    refine ⟨_, rfl, _, rfl, b, q, m, rfl, B1, hm, hm2, fun x H2 a1 a2 B2 k2 => ?_⟩
    refine ⟨_, rfl, _, rfl, b, q, m, rfl, B2, hm, hm2, fun y H3 c1 c2 B3 k3 => ?_⟩
    refine ⟨by show 3 ≤ sizeLine; decide, fun p np => ?_⟩
    have xt := (x1.trans k2.xt).trans k3.xt
    exact K1 p c x y _ (xt.free (B3.ne np) np) (B3.ne np) upd_same hc a1 a2 c1 c2 (B3.new np) (xt.new np)
end
end Wb
namespace Wb
open PySem PySem.Spec PyProof.Rows L2 RZ
abbrev sSame : Stmt := topS 27
def scV : V → Bool
  | .non => true
  | .bl _ => true
  | .int _ => true
  | .str _ => true
  | _ => false
/-- both are the same data, at most n deep -/
def Sv (K : PySem.W.Frag) (H : Hp) : Nat → V → V → Prop
  | 0, x, y => scV x = true ∧ x = y
  | n + 1, x, y => (scV x = true ∧ x = y) ∨ ∃ (p q : Addr) (xs ys : List V), x = .ref p ∧ y = .ref q ∧ ((SqL K H p xs ∧ SqL K H q ys) ∨ (SqT K H p xs ∧ SqT K H q ys)) ∧ xs.length ≤ 100000 ∧ Paired (Sv K H n) xs ys
theorem Sv.same {K : PySem.W.Frag} {H H' : Hp} (s : Same H H') : ∀ (n : Nat) (x y : V), Sv K H n x y → Sv K H' n x y
  | 0, _, _, h => h
  | n + 1, x, y, h => by
    rcases h with h | ⟨p, q, xs, ys, e1, e2, h, hl, r⟩
    · exact .inl h
    · refine .inr ⟨p, q, xs, ys, e1, e2, ?_, hl, Paired.mapP r fun a b => Sv.same s n a b⟩
      rcases h with ⟨h1, h2⟩ | ⟨h1, h2⟩
      · exact .inl ⟨s.seq h1, s.seq h2⟩
      · refine .inr ⟨?_, ?_⟩
        · rcases h1 with (h | ⟨o, h⟩) | h
          · exact .inl (.inl (s _ _ h))
          · exact .inl (.inr ⟨o, s _ _ h⟩)
          · exact .inr h
        · rcases h2 with (h | ⟨o, h⟩) | h
          · exact .inl (.inl (s _ _ h))
          · exact .inl (.inr ⟨o, s _ _ h⟩)
          · exact .inr h
theorem same_tup {K : PySem.W.Frag} {H H' : Hp} {a : Addr} {xs : List V} (e : Same H H') (h : SqT K H a xs) : SqT K H' a xs := by
  rcases h with (h | ⟨o, h⟩) | h
  · exact .inl (.inl (e _ _ h))
  · exact .inl (.inr ⟨o, e _ _ h⟩)
  · exact .inr h
theorem ty_list {K : PySem.W.Frag} {H : Hp} {p : Addr} {xs : List V} (h : SqL K H p xs) : TyX K H (.ref p) (.type "list") := by
  rcases h with (h | ⟨o, h⟩) | ⟨o, its, n, h, hc, _⟩
  · exact .base (.lst h)
  · exact .base (.frz h)
  · exact .kList h hc
theorem ty_tup {K : PySem.W.Frag} {H : Hp} {p : Addr} {xs : List V} (h : SqT K H p xs) : TyX K H (.ref p) (.type "tuple") := by
  rcases h with (h | ⟨o, h⟩) | ⟨o, its, n, h, hc, _⟩
  · exact .base (.tup h)
  · exact .fTuple h
  · exact .kTuple h hc
theorem walk_zipT {K : PySem.W.Frag} {a b : Addr} {xs ys : List V} {n : Nat} (hn : n = min xs.length ys.length) : Walk (ItzT K a b) n (fun H => SqT K H a xs ∧ SqT K H b ys) (YPair (fun i => xs[i]?) (fun i => ys[i]?)) where
  goes := fun i H hi g => ⟨xs, ys, xs[i]'(by omega), ys[i]'(by omega), g.1, g.2, List.getElem?_eq_getElem _, List.getElem?_eq_getElem _⟩
  stops := fun H g => ⟨xs, ys, g.1, g.2, by omega⟩
  yields := fun i H v H' hi g y => by
    obtain ⟨T, x, z, e, nT, eH, h1, h2⟩ := y
    exact ⟨T, x, z, e, nT, eH, h1 _ g.1, h2 _ g.2⟩
theorem paired_at {α β : Type} {F : α → β → Prop} : ∀ {l : List α} {m : List β}, Paired F l m → ∀ (i : Nat) (x : α) (y : β), l[i]? = some x → m[i]? = some y → F x y
  | _, _, .nil, i, _, _, h, _ => by simp at h
  | _, _, .cons r _, 0, x, y, h1, h2 => by
    cases h1
    cases h2
    exact r
  | _, _, .cons _ t, i + 1, x, y, h1, h2 => paired_at t i x y h1 h2
section
variable {P : Program} {w : World} {K : PySem.W.Frag} {mg : Str → Option Value} {base : Heap}
def spSame (K : PySem.W.Frag) (n : Nat) : Sp := fun vs H Q _ => ∃ x y, vs = [x, y] ∧ Sv K H n x y ∧ ∀ H', Same H H' → Q (.bl true) H'
theorem scS : FnScope ["_law_found", "_law_due", "_law_my_one", "_law_my_other"] ["_law_found", "_law_due"] (defScope sSame) := ⟨rfl, rfl, rfl, by decide +kernel, rfl, by decide +kernel, by decide +kernel⟩
structure SmT (mg : Str → Option Value) : Prop where
  isi : mg "isinstance" = none
  lst : mg "list" = none
  tup : mg "tuple" = none
  bool : mg "bool" = none
  int : mg "int" = none
  str : mg "str" = none
  len : mg "len" = none
  all : mg "all" = none
  zip : mg "zip" = none
/-- a plain value against itself -/
theorem same_plain {n k : Nat} {f : Addr} {fd : FuncData} {cdv : Value} {A : Around} {outer : List Env} {s : Shared} {H : Hp} {Q : VK} {E : XK} (M : SmT mg) {v : V} {t : String} {b1 b2 b3 : Bool} (nn : v ≠ .non) (ty : TyX K H v (.type t)) (sc : scal v v = true)
    (k1 : kitB t "list" = some false) (k2 : kitB t "tuple" = some false) (k3 : kitB t "bool" = some b1) (k4 : kitB t "int" = some b2) (k5 : kitB t "str" = some b3) (q : Q (.bl true) H) :
    ∃ tt, PSs (cxOf CX0 P w K mg base ["_law_found", "_law_due", "_law_my_one", "_law_my_other"] "_law_same" (defScope sSame) f cdv A outer s H E).nox (defBody sSame) tt ∧ tt { nx := fun _ H' => Q .non H', rt := Q } (start ["_law_found", "_law_due", "_law_my_one", "_law_my_other"] [v, v]) H := by
  refine ⟨_, pss_cons (ps_if (pt_cmpR op_isN (pv 1) pe_non (nomark _)) (pss_one ps_never) pss_nil)
    (pss_cons (ps_if (PW.pt (pw_or (pt_val (pe_callB call_isi (by rfl) M.isi boot_isinstance (pa_cons (pv 1) (pa_cons (pe_bltn (v := .ty "list") (by rfl) M.lst (by decide +kernel) rfl) pa_nil)))) (pw_or1 (pt_val (pe_callB call_isi (by rfl) M.isi boot_isinstance (pa_cons (pv 1) (pa_cons (pe_bltn (v := .ty "tuple") (by rfl) M.tup (by decide +kernel) rfl) pa_nil))))))) (pss_cons ps_never (pss_one ps_never)) pss_nil)
    (pss_cons (ps_if (PW.pt (pw_or (pt_cmpR op_ne (pe_callB call_isi (by rfl) M.isi boot_isinstance (pa_cons (pv 1) (pa_cons (pe_bltn (v := .ty "bool") (by rfl) M.bool (by decide +kernel) rfl) pa_nil))) (pe_callB call_isi (by rfl) M.isi boot_isinstance (pa_cons (pv 0) (pa_cons (pe_bltn (v := .ty "bool") (by rfl) M.bool (by decide +kernel) rfl) pa_nil))) (nomark _)) (pw_or1 (pt_cmpR op_ne (pe_callB call_isi (by rfl) M.isi boot_isinstance (pa_cons (pv 1) (pa_cons (pe_bltn (v := .ty "int") (by rfl) M.int (by decide +kernel) rfl) pa_nil))) (pe_callB call_isi (by rfl) M.isi boot_isinstance (pa_cons (pv 0) (pa_cons (pe_bltn (v := .ty "int") (by rfl) M.int (by decide +kernel) rfl) pa_nil))) (nomark _))))) (pss_one ps_never) pss_nil)
    (pss_one (ps_ret (pe_and (pe_cmpR op_eq (pe_callB call_isi (by rfl) M.isi boot_isinstance (pa_cons (pv 0) (pa_cons (pe_bltn (v := .ty "str") (by rfl) M.str (by decide +kernel) rfl) pa_nil))) (pe_callB call_isi (by rfl) M.isi boot_isinstance (pa_cons (pv 1) (pa_cons (pe_bltn (v := .ty "str") (by rfl) M.str (by decide +kernel) rfl) pa_nil))) (nomark _)) (pe_one (pe_cmpR op_eq (pv 0) (pv 1) (nomark _)))))))), ?_⟩
  refine ⟨_, rfl, rfl, _, rfl, ite2 (fun e => absurd (of_decide_eq_true e) nn) fun _ => ?_⟩
  refine ⟨_, rfl, v, _, _, _, _, rfl, .ty "list", ty, kit_ty k1, _, rfl, iteF ?_⟩
  refine ⟨_, rfl, v, _, _, _, _, rfl, .ty "tuple", ty, kit_ty k2, _, rfl, iteF ?_⟩
  refine ⟨_, rfl, v, _, _, _, _, rfl, .ty "bool", ty, kit_ty k3, _, rfl, v, _, _, _, _, rfl, .ty "bool", ty, kit_ty k3, rfl, _, rfl, ?_⟩
  refine iteNS rfl ?_
  refine ⟨_, rfl, v, _, _, _, _, rfl, .ty "int", ty, kit_ty k4, _, rfl, v, _, _, _, _, rfl, .ty "int", ty, kit_ty k4, rfl, _, rfl, ?_⟩
  refine iteNS rfl ?_
  refine ⟨_, rfl, v, _, _, _, _, rfl, .ty "str", ty, kit_ty k5, _, rfl, v, _, _, _, _, rfl, .ty "str", ty, kit_ty k5, rfl, true, ?_, ?_⟩
  · rw [decide_eq_true rfl]
  · refine iteT ⟨_, rfl, _, rfl, sc, ?_⟩
    rw [decide_eq_true rfl]
    exact q
/-- a plain value against itself, any -/
theorem same_any {f : Addr} {fd : FuncData} {cdv : Value} {A : Around} {outer : List Env} {s : Shared} {H : Hp} {Q : VK} {E : XK} (M : SmT mg) {v : V} (hs : scV v = true) (q : Q (.bl true) H) :
    ∃ tt, PSs (cxOf CX0 P w K mg base ["_law_found", "_law_due", "_law_my_one", "_law_my_other"] "_law_same" (defScope sSame) f cdv A outer s H E).nox (defBody sSame) tt ∧ tt { nx := fun _ H' => Q .non H', rt := Q } (start ["_law_found", "_law_due", "_law_my_one", "_law_my_other"] [v, v]) H := by
  cases v with
  | non =>
    refine ⟨_, pss_cons (ps_if (pt_cmpR op_isN (pv 1) pe_non (nomark _)) (pss_one (ps_ret (pe_cmpR op_isN (pv 0) pe_non (nomark _)))) pss_nil) (pss_cons ps_never (pss_cons ps_never (pss_one ps_never))), ?_⟩
    exact ⟨_, rfl, rfl, _, rfl, iteT ⟨_, rfl, rfl, q⟩⟩
  | bl b => exact same_plain (n := 0) (k := 0) (fd := fd) (b1 := true) (b2 := true) (b3 := false) M (fun z => nomatch z) (.base (.bl b)) rfl (by decide +kernel) (by decide +kernel) (by decide +kernel) (by decide +kernel) (by decide +kernel) q
  | int i => exact same_plain (n := 0) (k := 0) (fd := fd) (b1 := false) (b2 := true) (b3 := false) M (fun z => nomatch z) (.base (.int i)) rfl (by decide +kernel) (by decide +kernel) (by decide +kernel) (by decide +kernel) (by decide +kernel) q
  | str z => exact same_plain (n := 0) (k := 0) (fd := fd) (b1 := false) (b2 := false) (b3 := true) M (fun z => nomatch z) (.base (.str z)) rfl (by decide +kernel) (by decide +kernel) (by decide +kernel) (by decide +kernel) (by decide +kernel) q
  | byt _ => cases hs
  | flt _ => cases hs
  | ref _ => cases hs
  | ty _ => cases hs
theorem ok_same {f : Addr} {fd : FuncData} (F : Fun K "_law_same" "_law_same" sSame f fd) (gl : mg "_law_same" = some (.ref f)) (bd : Binds K fd ["_law_found", "_law_due"] []) (M : SmT mg) : ∀ n, FnOk P w K mg base CX0 (n + 1) f fd ["_law_found", "_law_due"] (spSame K n) := by
  intro n
  induction n with
  | zero =>
    refine F.ok scS (fun vs H Q E h => ?_) (fun cdv A outer s H vs Q E hr h => ?_)
    · obtain ⟨x, y, rfl, _⟩ := h
      rfl
    · obtain ⟨x, y, rfl, ⟨hs, rfl⟩, q⟩ := h
      exact same_any (fd := fd) M hs (q _ (Same.refl _))
  | succ n ih =>
    refine F.ok scS (fun vs H Q E h => ?_) (fun cdv A outer s H vs Q E hr h => ?_)
    · obtain ⟨x, y, rfl, _⟩ := h
      rfl
    · obtain ⟨x, y, rfl, hs, q⟩ := h
      rcases hs with ⟨hs, rfl⟩ | ⟨p1, p2, xs, ys, rfl, rfl, hS, hl, pr⟩
      · exact same_any (fd := fd) M hs (q _ (Same.refl _))
      · -- two lists, or two tuples
        have hlen : xs.length = ys.length := Paired.length pr
        refine ⟨_, pss_cons (ps_if (pt_cmpR op_isN (pv 1) pe_non (nomark _)) (pss_one ps_never) pss_nil)
          (pss_cons (ps_if (PW.pt (pw_or (pt_val (pe_callB call_isi (by rfl) M.isi boot_isinstance (pa_cons (pv 1) (pa_cons (pe_bltn (v := .ty "list") (by rfl) M.lst (by decide +kernel) rfl) pa_nil)))) (pw_or1 (pt_val (pe_callB call_isi (by rfl) M.isi boot_isinstance (pa_cons (pv 1) (pa_cons (pe_bltn (v := .ty "tuple") (by rfl) M.tup (by decide +kernel) rfl) pa_nil)))))))
            (pss_cons (ps_if (PW.pt (pw_or (pt_cmpR op_ne (pe_callB call_isi (by rfl) M.isi boot_isinstance (pa_cons (pv 0) (pa_cons (pe_bltn (v := .ty "list") (by rfl) M.lst (by decide +kernel) rfl) pa_nil))) (pe_callB call_isi (by rfl) M.isi boot_isinstance (pa_cons (pv 1) (pa_cons (pe_bltn (v := .ty "list") (by rfl) M.lst (by decide +kernel) rfl) pa_nil))) (nomark _)) (pw_or1 (pt_cmpR op_ne (pe_callB call_isi (by rfl) M.isi boot_isinstance (pa_cons (pv 0) (pa_cons (pe_bltn (v := .ty "tuple") (by rfl) M.tup (by decide +kernel) rfl) pa_nil))) (pe_callB call_isi (by rfl) M.isi boot_isinstance (pa_cons (pv 1) (pa_cons (pe_bltn (v := .ty "tuple") (by rfl) M.tup (by decide +kernel) rfl) pa_nil))) (nomark _))))) (pss_one ps_never) pss_nil)
            (pss_one (ps_ret (pe_and (pe_cmpR op_eq (pe_callB call_len_seq (by rfl) M.len PySem.boot_len (pa_cons (pv 0) pa_nil)) (pe_callB call_len_seq (by rfl) M.len PySem.boot_len (pa_cons (pv 1) pa_nil)) (nomark _))
              (pe_one (pe_callB (cr_all rfl) (by rfl) M.all (by decide +kernel) (pa_cons
                (pe_lc (own := [("_law_my_one", 2), ("_law_my_other", 3)]) (g := gTup K 2 (gCons (gName 2) (gCons (gName 3) gNil))) (tt := tYes) rfl scS.nd (pi_zipA (by rfl) M.zip (pa_cons (pv 0) (pa_cons (pv 1) pa_nil)))
                  (blkOk_by (N := ["_law_found", "_law_due", "_law_my_one", "_law_my_other"]) (sc := defScope sSame) (by decide +kernel))
                  (fun _ _ _ _ _ => pg_tup rfl (pgs_cons (pg_name (i := 2) scS.nd rfl (.inl rfl)) (pgs_cons (pg_name (i := 3) scS.nd rfl (.inl rfl)) pgs_nil))) (fun _ _ _ _ _ => pts_nil)
                  (fun _ _ _ _ _ => pe_call ih hr (by rfl) gl F.kp bd .nil pass0 (pa_cons (pv 2) (pa_cons (pv 3) pa_nil)))) pa_nil)))))))
            pss_nil)
          (pss_cons ps_never (pss_one ps_never))), ?_⟩
        refine ⟨_, rfl, rfl, _, rfl, ite2 (fun e => (nomatch (of_decide_eq_true e))) fun _ => ?_⟩
        have fin : ∀ H' D, Same H H' → H' D = some (.lst ((List.replicate xs.length true).map V.bl)) → Q (.bl true) H' := fun H' D s' _ => q H' s'
        rcases hS with ⟨h1, h2⟩ | ⟨h1, h2⟩
        · refine ⟨_, rfl, _, _, _, _, _, rfl, .ty "list", ty_list h2, kit_ty (r := true) (by decide +kernel), _, rfl, iteT ?_⟩
          refine iteT ?_
          refine ⟨_, rfl, _, _, _, _, _, rfl, .ty "list", ty_list h1, kit_ty (r := true) (by decide +kernel), _, rfl, _, _, _, _, _, rfl, .ty "list", ty_list h2, kit_ty (r := true) (by decide +kernel), rfl, _, rfl, iteNS rfl ?_⟩
          refine ⟨_, rfl, _, _, _, _, _, rfl, .ty "tuple", ty_list h1, kit_ty (r := false) (by decide +kernel), _, rfl, _, _, _, _, _, rfl, .ty "tuple", ty_list h2, kit_ty (r := false) (by decide +kernel), rfl, _, rfl, iteNS rfl ?_⟩
          refine ⟨_, rfl, p1, xs, rfl, .inl h1, _, rfl, p2, ys, rfl, .inl h2, rfl, true, by rw [hlen, decide_eq_true rfl], iteT ?_⟩
          refine ⟨_, rfl, _, rfl, p1, p2, xs, ys, rfl, .inl ⟨h1, h2, fun D nD => ?_⟩⟩
          refine lc_it (walk_zip (K := K) (a := p1) (b := p2) (xs := xs) (ys := ys) (n := xs.length) (by omega)) (fun i H' => H' D = some (.lst ((List.replicate i true).map V.bl)) ∧ Same H H' ∧ i ≤ xs.length) ⟨upd_same, same_upd nD, Nat.zero_le _⟩ (fun i H' _ hp => ⟨hp.2.1.seq h1, hp.2.1.seq h2⟩) ?_ ?_
          · rintro i v H1 H2 hi ⟨hD, sm, _⟩ ⟨T, x, y, rfl, nT, rfl, gx, gy⟩
            have sT : Same H1 (upd H1 T (.tup [x, y])) := same_upd nT
            refine ⟨T, [x, y], rfl, SqT.of upd_same, rfl, x, [y], rfl, y, [], rfl, rfl, rfl, ?_⟩
            dsimp only [tYes]
            refine iteT ⟨_, rfl, _, rfl, x, y, rfl, Sv.same (sm.trans sT) n x y (paired_at pr i x y gx gy), fun H3 s3 => ?_⟩
            refine ⟨_, s3 _ _ (sT _ _ hD), by rw [List.length_map, List.length_replicate]; exact Nat.lt_of_lt_of_le hi (Nat.le_trans hl (by decide)), ?_, ?_, hi⟩
            · rw [upd_same, List.replicate_succ', List.map_append]
              rfl
            · intro c o e
              rw [upd_ne (ne_of_none e nD)]
              exact s3 _ _ (sT _ _ (sm _ _ e))
          · rintro H' ⟨hD, sm, _⟩
            refine ⟨D, List.replicate xs.length true, rfl, SqL.of hD, ?_⟩
            rw [show (List.replicate xs.length true).all id = true by simp]
            exact q H' sm
        · refine ⟨_, rfl, _, _, _, _, _, rfl, .ty "list", ty_tup h2, kit_ty (r := false) (by decide +kernel), _, rfl, iteF ?_⟩
          refine ⟨_, rfl, _, _, _, _, _, rfl, .ty "tuple", ty_tup h2, kit_ty (r := true) (by decide +kernel), _, rfl, iteT ?_⟩
          refine ⟨_, rfl, _, _, _, _, _, rfl, .ty "list", ty_tup h1, kit_ty (r := false) (by decide +kernel), _, rfl, _, _, _, _, _, rfl, .ty "list", ty_tup h2, kit_ty (r := false) (by decide +kernel), rfl, _, rfl, iteNS rfl ?_⟩
          refine ⟨_, rfl, _, _, _, _, _, rfl, .ty "tuple", ty_tup h1, kit_ty (r := true) (by decide +kernel), _, rfl, _, _, _, _, _, rfl, .ty "tuple", ty_tup h2, kit_ty (r := true) (by decide +kernel), rfl, _, rfl, iteNS rfl ?_⟩
          refine ⟨_, rfl, p1, xs, rfl, .inr h1, _, rfl, p2, ys, rfl, .inr h2, rfl, true, by rw [hlen, decide_eq_true rfl], iteT ?_⟩
          refine ⟨_, rfl, _, rfl, p1, p2, xs, ys, rfl, .inr ⟨h1, h2, fun D nD => ?_⟩⟩
          refine lc_it (walk_zipT (K := K) (a := p1) (b := p2) (xs := xs) (ys := ys) (n := xs.length) (by omega)) (fun i H' => H' D = some (.lst ((List.replicate i true).map V.bl)) ∧ Same H H' ∧ i ≤ xs.length) ⟨upd_same, same_upd nD, Nat.zero_le _⟩ (fun i H' _ hp => ⟨same_tup hp.2.1 h1, same_tup hp.2.1 h2⟩) ?_ ?_
          · rintro i v H1 H2 hi ⟨hD, sm, _⟩ ⟨T, x, y, rfl, nT, rfl, gx, gy⟩
            have sT : Same H1 (upd H1 T (.tup [x, y])) := same_upd nT
            refine ⟨T, [x, y], rfl, SqT.of upd_same, rfl, x, [y], rfl, y, [], rfl, rfl, rfl, ?_⟩
            dsimp only [tYes]
            refine iteT ⟨_, rfl, _, rfl, x, y, rfl, Sv.same (sm.trans sT) n x y (paired_at pr i x y gx gy), fun H3 s3 => ?_⟩
            refine ⟨_, s3 _ _ (sT _ _ hD), by rw [List.length_map, List.length_replicate]; exact Nat.lt_of_lt_of_le hi (Nat.le_trans hl (by decide)), ?_, ?_, hi⟩
            · rw [upd_same, List.replicate_succ', List.map_append]
              rfl
            · intro c o e
              rw [upd_ne (ne_of_none e nD)]
              exact s3 _ _ (sT _ _ (sm _ _ e))
          · rintro H' ⟨hD, sm, _⟩
            refine ⟨D, List.replicate xs.length true, rfl, SqL.of hD, ?_⟩
            rw [show (List.replicate xs.length true).all id = true by simp]
            exact q H' sm
end
end Wb
/-! Tables of sets of any size: masks 2^k - 1. -/
namespace Bt
open PySem PySem.Spec PyProof.Rows L2
/-! ### i -> 5 i + 1 goes through all numbers below 2^k -/
def gq : Nat → Nat
  | 0 => 0
  | n + 1 => gq n * 5 + 1
theorem gq_add (a : Nat) : ∀ b, gq (a + b) = gq a * 5 ^ b + gq b
  | 0 => by show gq a = gq a * 1 + 0; omega
  | b + 1 => by
    show gq (a + b) * 5 + 1 = gq a * 5 ^ (b + 1) + (gq b * 5 + 1)
    rw [gq_add a b, Nat.add_mul, Nat.pow_succ, Nat.mul_assoc]
    omega
theorem five_four : ∀ n, 5 ^ n % 4 = 1
  | 0 => rfl
  | n + 1 => by rw [Nat.pow_succ, Nat.mul_mod, five_four n]
theorem gq_two : ∀ k, ∃ q, gq (2 ^ k) = 2 ^ k * (2 * q + 1)
  | 0 => ⟨0, rfl⟩
  | k + 1 => by
    obtain ⟨q, hq⟩ := gq_two k
    have h4 := five_four (2 ^ k)
    obtain ⟨z, hz⟩ : ∃ z, 5 ^ 2 ^ k = 4 * z + 1 := ⟨5 ^ 2 ^ k / 4, by omega⟩
    refine ⟨(2 * q + 1) * z + q, ?_⟩
    have e : (2 : Nat) ^ (k + 1) = 2 ^ k + 2 ^ k := by rw [Nat.pow_succ]; omega
    rw [e, gq_add, hq, hz]
    generalize 2 ^ k = M
    have e1 : M * (2 * q + 1) * (4 * z + 1) + M * (2 * q + 1) = M * ((2 * q + 1) * (4 * z + 1) + (2 * q + 1)) := by
      rw [Nat.mul_assoc, ← Nat.mul_add M]
    have e2 : (M + M) * (2 * ((2 * q + 1) * z + q) + 1) = M * (2 * (2 * ((2 * q + 1) * z + q) + 1)) := by
      rw [← Nat.mul_assoc M 2, Nat.mul_comm M 2, Nat.two_mul M]
    rw [e1, e2]
    congr 1
    generalize hA : 2 * q + 1 = A
    have e3 : A * (4 * z + 1) = 4 * (A * z) + A := by
      rw [Nat.mul_add, Nat.mul_one, Nat.mul_left_comm]
    rw [e3]
    omega
theorem five_odd (n : Nat) : ∃ z, 5 ^ n = 2 * z + 1 := ⟨5 ^ n / 2, by have := five_four n; omega⟩
theorem odd_odd (a b : Nat) : ∃ c, (2 * a + 1) * (2 * b + 1) = 2 * c + 1 := ⟨(2 * a + 1) * b + a, by
  rw [Nat.mul_add, Nat.mul_one, Nat.mul_left_comm]; omega⟩
/-- each number below 2^k is met within 2^k steps -/
theorem gq_onto : ∀ k j, ∃ n, n < 2 ^ k ∧ gq n % 2 ^ k = j % 2 ^ k
  | 0, j => ⟨0, by decide, by rw [Nat.pow_zero, Nat.mod_one, Nat.mod_one]⟩
  | k + 1, j => by
    obtain ⟨n, hn, e⟩ := gq_onto k j
    have ep : (2 : Nat) ^ (k + 1) = 2 * 2 ^ k := by rw [Nat.pow_succ, Nat.mul_comm]
    by_cases c : gq n % 2 ^ (k + 1) = j % 2 ^ (k + 1)
    · exact ⟨n, by omega, c⟩
    · refine ⟨2 ^ k + n, by omega, ?_⟩
      obtain ⟨q, hq⟩ := gq_two k
      obtain ⟨z, hz⟩ := five_odd n
      obtain ⟨u, hu⟩ := odd_odd q z
      rw [gq_add, hq, hz, Nat.mul_assoc, hu]
      rw [ep] at c ⊢
      have hp : 0 < 2 ^ k := Nat.pow_pos (by decide)
      generalize 2 ^ k = M at *
      -- g = M a + r, j = M b + r
      have d1 := Nat.div_add_mod (gq n) M
      have d2 := Nat.div_add_mod j M
      have hr := Nat.mod_lt (gq n) hp
      generalize gq n / M = a at d1
      generalize hx : j / M = b at d2
      rw [← e] at d2
      generalize gq n % M = r at *
      have red : ∀ x, (M * x + r) % (2 * M) = M * (x % 2) + r := fun x => by
        have h2 := Nat.div_add_mod x 2
        have e4 : M * x + r = 2 * M * (x / 2) + (M * (x % 2) + r) := by
          have : M * x = M * (2 * (x / 2) + x % 2) := by rw [h2]
          rw [this, Nat.mul_add, Nat.mul_comm 2 M, Nat.mul_assoc]
          omega
        have lt : M * (x % 2) + r < 2 * M := by
          rcases Nat.mod_two_eq_zero_or_one x with h | h <;> rw [h] <;> omega
        rw [e4, Nat.mul_add_mod, Nat.mod_eq_of_lt lt]
      rw [← d1, ← d2, red, red] at c
      have e5 : M * (2 * u + 1) + gq n = M * (2 * u + 1 + a) + r := by rw [← d1, Nat.mul_add M (2 * u + 1) a]; omega
      rw [e5, ← d2, red, red]
      have q1 := Nat.mod_two_eq_zero_or_one a
      have q2 := Nat.mod_two_eq_zero_or_one b
      have q3 : (2 * u + 1 + a) % 2 = 1 - a % 2 := by omega
      rw [q3]
      rcases q1 with q1 | q1 <;> rcases q2 with q2 | q2 <;> rw [q1, q2] at c ⊢
      · exact absurd rfl c
      · exact absurd rfl c
theorem gq_period (k b : Nat) : gq (2 ^ k + b) % 2 ^ k = gq b % 2 ^ k := by
  obtain ⟨q, hq⟩ := gq_two k
  rw [gq_add, hq, Nat.mul_assoc, Nat.mul_add_mod]
/-- the masks that come -/
def Mk (m : Nat) : Prop := ∃ k, 3 ≤ k ∧ m + 1 = 2 ^ k
theorem Mk.odd {m : Nat} (h : Mk m) : m % 2 = 1 := by
  obtain ⟨k, hk, e⟩ := h
  obtain ⟨j, rfl⟩ : ∃ j, k = j + 1 := ⟨k - 1, by omega⟩
  rw [Nat.pow_succ] at e
  omega
theorem lcg_gq (m a : Nat) : ∀ k, lcgI m (gq a % (m + 1)) k = gq (a + k) % (m + 1)
  | 0 => rfl
  | k + 1 => by
    show (lcgI m (gq a % (m + 1)) k * 5 + 1) % (m + 1) = (gq (a + k) * 5 + 1) % (m + 1)
    rw [lcg_gq m a k, Nat.add_mod, Nat.mul_mod, Nat.mod_mod, ← Nat.mul_mod, ← Nat.add_mod]
/-- from anywhere each slot is met within a round -/
theorem go_all {m : Nat} (hm : Mk m) {i j : Nat} (hi : i ≤ m) (hj : j ≤ m) : ∃ k, k ≤ m ∧ lcgI m i k = j := by
  obtain ⟨e, _, he⟩ := hm
  obtain ⟨a, ha, ea⟩ := gq_onto e i
  obtain ⟨b, hb, eb⟩ := gq_onto e j
  rw [← he, Nat.mod_eq_of_lt (Nat.lt_succ_of_le hi)] at ea
  rw [← he, Nat.mod_eq_of_lt (Nat.lt_succ_of_le hj)] at eb
  rw [← he] at ha hb
  rw [← ea]
  by_cases c : a ≤ b
  · refine ⟨b - a, by omega, ?_⟩
    rw [lcg_gq, show a + (b - a) = b by omega]
    exact eb
  · refine ⟨m + 1 + b - a, by omega, ?_⟩
    rw [lcg_gq, show a + (m + 1 + b - a) = m + 1 + b by omega, he, gq_period, ← he]
    exact eb
theorem begins {m : Nat} (hm : Mk m) (h : Int) {j : Nat} (hj : j ≤ m) : ∃ n, n ≤ m + 12 ∧ runI m (SetTable.bits h) n = j := by
  obtain ⟨k, hk, e⟩ := go_all hm (runI_le m (SetTable.bits h) 12) hj
  refine ⟨12 + k, by omega, ?_⟩
  rw [runI_tail (bits_lt h)]
  exact e
theorem meets {m : Nat} (hm : Mk m) (h : Int) {j : Nat} (hj : j ≤ m) : ∃ k, k < 10 * SetTable.turns m ∧ way m h k = j := by
  obtain ⟨n, hn, e⟩ := begins hm h hj
  obtain ⟨k, hk, e2⟩ := run_nth m (SetTable.bits h) n
  have ht : SetTable.turns m = m + 15 := rfl
  exact ⟨k, by omega, (congrArg SetTable.Probe.j e2).trans e⟩
theorem way_in (m : Nat) (h : Int) (k : Nat) : way m h k ≤ m := by
  have hb : SetTable.bits h % (m + 1) ≤ m := Nat.le_of_lt_succ (Nat.mod_lt _ (Nat.succ_pos m))
  have r := (runEnd_bd hb).1
  have g := (runEnd_bd hb).2.1
  have q := nth_in (m := m) k (runAt m (SetTable.bits h % (m + 1)) (SetTable.bits h)) (show SetTable.bits h % (m + 1) + (SetTable.runEnd m (SetTable.bits h % (m + 1)) - SetTable.bits h % (m + 1)) ≤ m by omega)
  exact Nat.le_trans (Nat.le_add_right _ _) q
/-! ### a table whose slots are all found again -/
structure Tb (t : SetTable) (hs : List Int) : Prop where
  ris : Ris t.place.toList
  dm : t.dummies = #[]
  sz : t.place.size = hs.length
  msk : Mk t.mask
  bd : ∀ x ∈ t.place.toList, x ≤ t.mask
  back : ∀ (i : Nat) (h : Int) (j : Nat), hs[i]? = some h → t.place.toList[i]? = some j → ∃ k, way t.mask h k = j ∧ ∀ c, c < k → way t.mask h c ∈ t.place.toList
variable {t : SetTable} {hs : List Int}
/-- the way comes to a free slot -/
theorem Tb.free (T : Tb t hs) (hl : hs.length ≤ t.mask) (h : Int) : ∃ N, N < 10 * SetTable.turns t.mask ∧ way t.mask h N ∉ t.place.toList ∧ ∀ c, c < N → way t.mask h c ∈ t.place.toList := by
  have len : t.place.toList.length < t.mask + 1 := by
    have := T.sz
    rw [Array.length_toList]
    omega
  obtain ⟨j, hj, out⟩ := st_missing t.place.toList _ len
  obtain ⟨k, hk, e⟩ := meets T.msk h (Nat.le_of_lt_succ hj)
  obtain ⟨N, hN, free, first⟩ := st_least (p := fun c => way t.mask h c ∉ t.place.toList) k (fun z => out (e ▸ z))
  exact ⟨N, Nat.lt_of_le_of_lt hN hk, free, fun c hc => Classical.byContradiction fun z => first c hc z⟩
/-- an item with that hash stands ahead of the free slot -/
theorem Tb.ahead (T : Tb t hs) {h : Int} {N i j : Nat} (free : way t.mask h N ∉ t.place.toList) (hi : hs[i]? = some h) (hj : t.place.toList[i]? = some j) : ∃ k, k < N ∧ way t.mask h k = j := by
  obtain ⟨k, e, up⟩ := T.back i h j hi hj
  refine ⟨k, Nat.lt_of_not_le fun z => ?_, e⟩
  rcases Nat.lt_or_eq_of_le z with y | y
  · exact free (up N y)
  · subst y
    exact free (e ▸ List.mem_of_getElem? hj)
theorem Tb.mark (T : Tb t hs) (b : Bool) : Tb { t with plain := b } hs := ⟨T.ris, T.dm, T.sz, T.msk, T.bd, T.back⟩
/-- one item more, at the free slot -/
theorem Tb.put (T : Tb t hs) {h : Int} {N : Nat} (free : way t.mask h N ∉ t.place.toList) (up : ∀ c, c < N → way t.mask h c ∈ t.place.toList) : ∃ p, (t.put (way t.mask h N)).2 = p ∧ p ≤ hs.length ∧
    Tb (t.put (way t.mask h N)).1 (hs.take p ++ h :: hs.drop p) ∧ (t.put (way t.mask h N)).1.mask = t.mask ∧ (t.put (way t.mask h N)).1.led = t.led ∧ (t.put (way t.mask h N)).1.fill = hs.length + 1 := by
  have jm := way_in t.mask h N
  generalize hj : way t.mask h N = j at free jm ⊢
  obtain ⟨c1, _, _⟩ := below_cut T.ris j
  have pl : SetTable.below t.place j ≤ t.place.toList.length := by rw [Array.length_toList]; exact c1
  have ph : SetTable.below t.place j ≤ hs.length := by rw [← T.sz]; exact c1
  have np : t.place[SetTable.below t.place j]? ≠ some j := fun e => free (List.mem_of_getElem? (by rw [Array.getElem?_toList]; exact e))
  have pp := put_place t j
  have lz : t.place.toList.length = hs.length := (Array.length_toList ..).trans T.sz
  have ls : (t.put j).1.place.size = hs.length + 1 := by rw [← Array.length_toList, pp, len_ins _ pl, lz]
  have more : ∀ x, x ∈ t.place.toList → x ∈ (t.put j).1.place.toList := fun x hx => by rw [pp]; exact mem_ins.mpr (.inr hx)
  have dm := put_dm T.dm j
  refine ⟨SetTable.below t.place j, rfl, ph, ⟨ris_insert T.ris np, dm, by rw [len_ins _ ph]; exact ls, T.msk, fun x hx => ?_, fun i h' j' e1 e2 => ?_⟩, rfl, rfl, ?_⟩
  · rw [pp] at hx
    rcases mem_ins.mp hx with z | z
    · subst z; exact jm
    · exact T.bd x z
  · rw [tins_get hs ph] at e1
    rw [pp, tins_get _ pl] at e2
    have old : ∀ i0, hs[i0]? = some h' → t.place.toList[i0]? = some j' → ∃ k, way t.mask h' k = j' ∧ ∀ c, c < k → way t.mask h' c ∈ (t.put j).1.place.toList := fun i0 a b => by
      obtain ⟨k, e, u⟩ := T.back i0 h' j' a b
      exact ⟨k, e, fun c hc => more _ (u c hc)⟩
    by_cases q : i < SetTable.below t.place j
    · rw [if_pos q] at e1 e2; exact old i e1 e2
    · rw [if_neg q] at e1 e2
      by_cases r : i = SetTable.below t.place j
      · rw [if_pos r] at e1 e2
        cases e1
        cases e2
        exact ⟨N, hj, fun c hc => more _ (up c hc)⟩
      · rw [if_neg r] at e1 e2; exact old _ e1 e2
  · show (t.put j).1.place.size + (t.put j).1.dummies.size = _
    rw [ls, dm]
    rfl
/-! ### all laid anew -/
theorem found {m : Nat} (hm : Mk m) (own : Array (Option Nat)) (h : Int) {j : Nat} (hj : j ≤ m) (hf : oAt own j = none) :
    ∃ N, SetTable.layClean.free m own (SetTable.turns m) (SetTable.bits h % (m + 1)) (SetTable.bits h) = some (way m h N) ∧ oAt own (way m h N) = none ∧ ∀ c, c < N → oAt own (way m h c) ≠ none := by
  obtain ⟨n, hn, e⟩ := begins hm h hj
  have e2 : way m h (off m (SetTable.bits h % (m + 1)) (SetTable.bits h) n) = j := by
    unfold way
    rw [nth_off, itL_run]
    exact e
  obtain ⟨N, l, z, first⟩ := st_least (p := fun c => oAt own (way m h c) = none) _ (show oAt own (way m h (off m _ _ n)) = none by rw [e2]; exact hf)
  have ht : SetTable.turns m = m + 15 := rfl
  refine ⟨N, free_spec m own (SetTable.turns m) n _ _ N (by omega) l (fun c hc => ?_) ?_, z, first⟩
  · have y := first c hc
    unfold way at y
    generalize oAt own _ = o at y ⊢
    cases o with
    | none => exact absurd rfl y
    | some _ => rfl
  · have y := z
    unfold way at y
    rw [y]
    rfl
theorem own_step {m : Nat} (hm : Mk m) {done : List Int} {own : Array (Option Nat)} (W : Own m done own) (hl : done.length ≤ m) (h : Int) :
    ∃ j, SetTable.layClean.free m own (SetTable.turns m) (SetTable.bits h % (m + 1)) (SetTable.bits h) = some j ∧ Own m (done ++ [h]) (own.setIfInBounds j (some done.length)) := by
  obtain ⟨ps, lp, inp⟩ := W.ps
  obtain ⟨j0, l0, n0⟩ := st_missing ps (m + 1) (by omega)
  have f0 : oAt own j0 = none := by
    cases z : oAt own j0 with
    | none => rfl
    | some k => exact absurd (inp j0 (Nat.le_of_lt_succ l0) fun y => by rw [z] at y; cases y) n0
  obtain ⟨N, e1, e2, e3⟩ := found hm own h (Nat.le_of_lt_succ l0) f0
  have jm := way_in m h N
  have self := oAt_set_self (some done.length) (show way m h N < own.size by rw [W.sz]; omega)
  generalize hj : way m h N = j at e1 e2 jm self
  have keep : ∀ i, oAt own i ≠ none → oAt (own.setIfInBounds j (some done.length)) i ≠ none := fun i hi => by
    by_cases c : i = j
    · rw [c, self]; exact nofun
    · rw [oAt_set_ne _ c]; exact hi
  refine ⟨j, e1, ⟨(Array.size_setIfInBounds ..).trans W.sz, fun i k hi e => ?_, fun k hk => ?_, j :: ps, ?_, fun i hi e => ?_⟩⟩
  · by_cases c : i = j
    · subst c
      rw [self] at e
      cases e
      exact ⟨h, N, by rw [List.getElem?_append_right (Nat.le_refl _), Nat.sub_self]; rfl, hj, fun c hc => keep _ (e3 c hc)⟩
    · rw [oAt_set_ne _ c] at e
      obtain ⟨h', N', a1, a2, a3⟩ := W.at_ i k hi e
      exact ⟨h', N', by rw [List.getElem?_append_left (List.getElem?_eq_some_iff.mp a1).1]; exact a1, a2, fun c hc => keep _ (a3 c hc)⟩
  · by_cases c : k < done.length
    · obtain ⟨i, hi, e⟩ := W.all k c
      refine ⟨i, hi, ?_⟩
      rw [oAt_set_ne _ fun z => ?_]
      · exact e
      · subst z
        rw [e2] at e
        cases e
    · have ek : k = done.length := by
        rw [List.length_append, List.length_singleton] at hk
        omega
      subst ek
      exact ⟨j, jm, self⟩
  · rw [List.length_cons, List.length_append, lp]
    rfl
  · by_cases c : i = j
    · subst c; exact List.mem_cons_self ..
    · rw [oAt_set_ne _ c] at e; exact List.mem_cons_of_mem _ (inp i hi e)
theorem folds {m : Nat} (hm : Mk m) : ∀ (l done : List Int) (own : Array (Option Nat)), Own m done own → done.length + l.length ≤ m →
    ∃ own', l.foldl (stepF m) (some (own, done.length)) = some (own', (done ++ l).length) ∧ Own m (done ++ l) own'
  | [], done, own, W, _ => ⟨own, by simp, by simpa using W⟩
  | h :: l, done, own, W, hl => by
    have hl2 : done.length + (l.length + 1) ≤ m := hl
    obtain ⟨j, e, W2⟩ := own_step hm W (by omega) h
    obtain ⟨own', f, W3⟩ := folds hm l (done ++ [h]) _ W2 (by rw [List.length_append, List.length_singleton]; omega)
    refine ⟨own', ?_, by simpa using W3⟩
    rw [List.foldl_cons, stepF_some e]
    rw [List.length_append, List.length_singleton] at f
    rw [f]
    simp
theorem laid_clean {m : Nat} (hm : Mk m) {a : Array Int} (hn : a.size ≤ m) : ∃ own, SetTable.layClean m a = some own ∧ Own m a.toList own := by
  obtain ⟨own, f, W⟩ := folds hm a.toList [] _ (Own.init m) (by rw [Array.length_toList]; simpa using hn)
  refine ⟨own, ?_, by simpa using W⟩
  rw [layClean_eq, show (0 : Nat) = ([] : List Int).length from rfl, f]
  rfl
theorem anew (t : SetTable) {a : Array Int} {wanted M : Nat} (hw : SetTable.sizeAbove wanted - 1 = M) (hM : Mk M) (hn : a.size ≤ M) :
    ∃ t' ord, t.relaid a wanted = some (t', ord) ∧ ord.toList.Perm (List.range a.size) ∧ Tb t' (ord.toList.map fun i => a.getD i 0) ∧ t'.mask = M ∧ t'.led = t.led := by
  obtain ⟨own, e, W⟩ := laid_clean hM hn
  obtain ⟨r1, r2⟩ := ris_live (fun j => own.getD j none) (List.range (M + 1)) (by
    unfold Ris
    first | exact List.pairwise_lt_range | exact List.pairwise_lt_range _)
  have r1 : Ris ((liveOf M own).map (·.1)) := r1
  have r2 : ∀ x ∈ (liveOf M own).map (·.1), x ∈ List.range (M + 1) := r2
  have al : a.toList.length = a.size := Array.length_toList ..
  have has : ∀ k, k < a.size → k ∈ (liveOf M own).map (·.2) := fun k hk => by
    obtain ⟨j, b1, b2⟩ := W.all k (by rw [al]; exact hk)
    exact List.mem_map.mpr ⟨(j, k), (mem_live W.sz).mpr ⟨b1, b2⟩, rfl⟩
  have len : (liveOf M own).length = a.size := by
    obtain ⟨ps, p1, p2⟩ := W.ps
    have ndl : ((liveOf M own).map (·.1)).Nodup := List.Pairwise.imp (fun h => Nat.ne_of_lt h) r1
    have x1 := nat_nodup_len ((liveOf M own).map (·.1)) ps ndl fun x hx => by
      obtain ⟨⟨y, k⟩, hq, rfl⟩ := List.mem_map.mp hx
      obtain ⟨b1, b2⟩ := (mem_live W.sz).mp hq
      exact p2 y b1 fun z => by rw [b2] at z; cases z
    have x2 := nat_nodup_len (List.range a.size) ((liveOf M own).map (·.2)) List.nodup_range fun k hk => has k (List.mem_range.mp hk)
    rw [List.length_map] at x1 x2
    rw [List.length_range] at x2
    omega
  refine ⟨tabOf t M own, ((liveOf M own).map (·.2)).toArray, by rw [relaid_eq, hw, e]; rfl, perm_range a.size _ (by rw [List.length_map]; exact len) has, ⟨r1, rfl, ?_, hM, fun x hx => ?_, fun i h j e1 e2 => ?_⟩, rfl, rfl⟩
  · show ((liveOf M own).map (·.1)).toArray.size = _
    simp
  · exact Nat.le_of_lt_succ (List.mem_range.mp (r2 x hx))
  · have e1 : (((liveOf M own).map (·.2)).map fun i => a.getD i 0)[i]? = some h := e1
    have e2 : ((liveOf M own).map (·.1))[i]? = some j := e2
    rw [List.getElem?_map, List.getElem?_map] at e1
    rw [List.getElem?_map] at e2
    cases hq : (liveOf M own)[i]? with
    | none => rw [hq] at e2; cases e2
    | some q =>
      obtain ⟨y, k⟩ := q
      rw [hq] at e1 e2
      cases e2
      obtain ⟨b1, b2⟩ := (mem_live W.sz).mp (List.mem_of_getElem? hq)
      obtain ⟨h0, N, a1, a2, a3⟩ := W.at_ y k b1 b2
      have eh : h0 = h := by
        have : a.getD k 0 = h := Option.some.inj e1
        rw [← this, Array.getD_eq_getD_getElem?, ← Array.getElem?_toList, a1]
        rfl
      subst eh
      refine ⟨N, a2, fun c hc => ?_⟩
      show way M h0 c ∈ (liveOf M own).map (·.1)
      cases z : oAt own (way M h0 c) with
      | none => exact absurd z (a3 c hc)
      | some k2 => exact List.mem_map.mpr ⟨(way M h0 c, k2), (mem_live W.sz).mpr ⟨way_in M h0 c, z⟩, rfl⟩
/-! ### how tables grow -/
/-- the masks up to 8191 -/
theorem Mk.pow {m k : Nat} (h : m + 1 = 2 ^ k) (hk : 3 ≤ k) : Mk m := ⟨k, hk, h⟩
def MkB (m : Nat) : Prop := m = 7 ∨ m = 31 ∨ m = 127 ∨ m = 511 ∨ m = 2047 ∨ m = 8191
theorem grows {m n : Nat} (h : MkB m) (h1 : n * 5 < m * 3) (h2 : (n + 1) * 5 ≥ m * 3) (h3 : n + 1 < 4000) : ∃ M, SetTable.sizeAbove (SetTable.grown (n + 1)) - 1 = M ∧ MkB M ∧ SetTable.sizeAbove (SetTable.grown (n + 1)) ≤ 8192 ∧ (n + 1) * 5 < M * 3 ∧ Mk M ∧ n + 1 ≤ m := by
  have two : (m = 7 ∧ n = 4) ∨ (m = 31 ∧ n = 18) ∨ (m = 127 ∧ n = 76) ∨ (m = 511 ∧ n = 306) ∨ (m = 2047 ∧ n = 1228) := by
    rcases h with e | e | e | e | e | e <;> subst e <;> omega
  rcases two with ⟨rfl, rfl⟩ | ⟨rfl, rfl⟩ | ⟨rfl, rfl⟩ | ⟨rfl, rfl⟩ | ⟨rfl, rfl⟩
  · exact ⟨31, by decide +kernel, by unfold MkB; omega, by decide +kernel, by omega, ⟨5, by omega, by decide⟩, by omega⟩
  · exact ⟨127, by decide +kernel, by unfold MkB; omega, by decide +kernel, by omega, ⟨7, by omega, by decide⟩, by omega⟩
  · exact ⟨511, by decide +kernel, by unfold MkB; omega, by decide +kernel, by omega, ⟨9, by omega, by decide⟩, by omega⟩
  · exact ⟨2047, by decide +kernel, by unfold MkB; omega, by decide +kernel, by omega, ⟨11, by omega, by decide⟩, by omega⟩
  · exact ⟨8191, by decide +kernel, by unfold MkB; omega, by decide +kernel, by omega, ⟨13, by omega, by decide⟩, by omega⟩
end Bt
/-! Sets of tuples, their items of any kind that is carried by value (ints and texts). -/
namespace Sg
open PySem PySem.Spec PyProof.Rows L2
theorem cls_item (n : Nat) {v : Value} (h : carriedByValue v = true) : ofAClassStatement n v = pure false := by
  cases v <;> first | (cases h; done) | (cases n <;> rfl)
theorem hash_item (n : Nat) {v : Value} (h : carriedByValue v = true) : ∃ b, hashByValue n v = pure b := by
  cases v <;> first | (cases h; done) | (cases n <;> exact ⟨_, rfl⟩)
section
variable {P : Program} {w : World} {κ : Type} [DecidableEq κ] {knd : KeyKind P w κ} {A : Around} {E : Value → Shared → Prop} {s : Shared}
/-- no class statement stands behind such a tuple -/
theorem cls_tup {k : List κ} {b : Addr} {Q : Bool → Shared → Prop} (hk : IsTupleKey knd s.heap k b) (h : Q false s) : wpAny (model P w) A (ofAClassStatement 8 (.ref b)) Q E s := by
  have ty := hk.typeIs
  obtain ⟨o, its, n, ho, _, hd, hi⟩ := hk
  have bv := hi.byValue
  unfold ofAClassStatement
  refine wpAny_bind (wpAny_typeOf ty ?_)
  have e : (("tuple" : String) == "tuple") = true := by decide
  dsimp only
  simp only [e, if_true, Bool.not_true, Bool.false_eq_true, if_false]
  try refine wpAny_bind (wpAny_pure ?_)
  try simp only [Bool.not_true, Bool.false_eq_true, if_false]
  show wpAny _ _ (seqItems? (.ref b) >>= _) _ _ s
  refine wpAny_bind (wpAny_seqItems ho hd ?_)
  dsimp only
  refine wpAny_bind ?_
  show wpAny _ _ (forIn its _ _) _ _ s
  rw [← Array.forIn_toList]
  refine wpAny_forIn_list _ (fun left acc s' => acc.1 = none ∧ s' = s ∧ ∀ v ∈ left, carriedByValue v = true) _ ?_ ?_ _ _ ⟨rfl, rfl, bv⟩
  · rintro v left acc s' ⟨ha, rfl, hv⟩
    rw [cls_item 7 (hv v List.mem_cons_self)]
    refine wpAny_bind (wpAny_pure ?_)
    simp only [Bool.false_eq_true, if_false]
    exact wpAny_pure ⟨rfl, rfl, fun u hu => hv u (List.mem_cons_of_mem _ hu)⟩
  · rintro ⟨a1, a2⟩ s' ⟨ha, rfl, _⟩
    simp only at ha
    subst ha
    exact wpAny_pure h
/-- whether its hash goes by value is told, either way -/
theorem hash_tup {k : List κ} {b : Addr} {Q : Bool → Shared → Prop} (hk : IsTupleKey knd s.heap k b) (h : ∀ y, Q y s) : wpAny (model P w) A (hashByValue 8 (.ref b)) Q E s := by
  have ty := hk.typeIs
  obtain ⟨o, its, n, ho, _, hd, hi⟩ := hk
  have bv := hi.byValue
  unfold hashByValue
  refine wpAny_bind (wpAny_specialOf ty F.slot_tuple_hash.lookup ?_)
  show wpAny _ _ (seqItems? (.ref b) >>= _) _ _ s
  refine wpAny_bind (wpAny_seqItems ho hd ?_)
  refine wpAny_bind ?_
  show wpAny _ _ (forIn its _ _) _ _ s
  rw [← Array.forIn_toList]
  refine wpAny_forIn_list _ (fun left acc s' => (acc.1 = none ∨ acc.1 = some false) ∧ s' = s ∧ ∀ v ∈ left, carriedByValue v = true) _ ?_ ?_ _ _ ⟨.inl rfl, rfl, bv⟩
  · rintro v left acc s' ⟨ha, rfl, hv⟩
    obtain ⟨y, ey⟩ := hash_item 7 (hv v List.mem_cons_self)
    rw [ey]
    refine wpAny_bind (wpAny_pure ?_)
    cases y with
    | true =>
      simp only [Bool.not_true, Bool.false_eq_true, if_false]
      exact wpAny_pure ⟨.inl rfl, rfl, fun u hu => hv u (List.mem_cons_of_mem _ hu)⟩
    | false =>
      simp only [Bool.not_false, if_true]
      exact wpAny_pure (wpAny_pure (h _))
  · rintro ⟨a1, a2⟩ s' ⟨ha, rfl, _⟩
    simp only at ha
    rcases ha with rfl | rfl
    · exact wpAny_pure (h _)
    · exact wpAny_pure (h _)
/-- a look for it among such tuples shows nothing -/
theorem look_tup {k : List κ} {b : Addr} {Q : Bool → Shared → Prop} (hk : IsTupleKey knd s.heap k b) {ys : List Value} (hy : ∀ y ∈ ys, ∃ k' c, y = Value.ref c ∧ IsTupleKey knd s.heap k' c) (h : Q false s) : wpAny (model P w) A (searchCouldBeSeen (.ref b) ys) Q E s := by
  unfold searchCouldBeSeen
  refine wpAny_bind ?_
  refine wpAny_forIn_list _ (fun left acc s' => acc.1 = none ∧ s' = s ∧ ∀ y ∈ left, ∃ k' c, y = Value.ref c ∧ IsTupleKey knd s.heap k' c) _ ?_ ?_ _ _ ⟨rfl, rfl, hy⟩
  · rintro v left acc s' ⟨ha, rfl, hv⟩
    obtain ⟨k', c, rfl, hc⟩ := hv v List.mem_cons_self
    have more := fun u hu => hv u (List.mem_cons_of_mem (a := u) _ hu)
    dsimp only
    by_cases z : (b == c || (carriedByValue (.ref b) && carriedByValue (.ref c))) = true
    · exact wp_if_pos z (wpAny_pure ⟨rfl, rfl, more⟩)
    · refine wp_if_neg z (wpAny_bind (wpAny_eqIsQuiet_tuple hk ?_))
      simp only [Bool.not_true, Bool.false_eq_true, if_false]
      refine wpAny_bind (wpAny_eqIsQuiet_tuple hc ?_)
      simp only [Bool.not_true, Bool.false_eq_true, if_false]
      refine wpAny_bind (cls_tup hk ?_)
      simp only [Bool.false_eq_true, if_false]
      refine wpAny_bind (cls_tup hc ?_)
      simp only [Bool.false_eq_true, if_false]
      exact wpAny_pure ⟨rfl, rfl, more⟩
  · rintro ⟨a1, a2⟩ s' ⟨ha, rfl, _⟩
    simp only at ha
    subst ha
    exact wpAny_pure h
end
end Sg
namespace Sg
open PySem PySem.Spec PyProof.Rows L2
section
variable {P : Program} {w : World} {κ : Type} [DecidableEq κ] (knd : KeyKind P w κ)
/-- the entries of a set that holds the tuples of L -/
def ents (L : List (Addr × List κ)) : List (Int × Value) := L.map fun p => (tupleKeyHash knd p.2, Value.ref p.1)
def hashes (L : List (Addr × List κ)) : List Int := L.map fun p => tupleKeyHash knd p.2
structure Hs (h : Heap) (a : Addr) (L : List (Addr × List κ)) (es : Array (Int × Value)) (ep : Nat) (t : SetTable) : Prop where
  ob : ∃ o, h.get? a = some o ∧ o.ExactSet ∧ o.data = .set es ep t
  en : es.toList = ents knd L
  tab : Bt.Tb t (hashes knd L)
  mb : Bt.MkB t.mask
  nd : (L.map (·.2)).Nodup
  tup : ∀ p ∈ L, IsTupleKey knd h p.2 p.1
  led : w.params.followText "set-order" = true ∨ t.led = true
  room : L.length * 5 < t.mask * 3
  few : L.length < 4000
end
section
variable {P : Program} {w : World} {κ : Type} [DecidableEq κ] {knd : KeyKind P w κ} {A : Around} {E : Value → Shared → Prop} {s : Shared} {a : Addr} {L : List (Addr × List κ)} {es : Array (Int × Value)} {ep : Nat} {t : SetTable}
theorem hashes_len : (hashes knd L).length = L.length := List.length_map _
theorem size_of (h : es.toList = ents knd L) : es.size = L.length := by
  have z := congrArg List.length h
  rwa [Array.length_toList, show (ents knd L).length = L.length from List.length_map _] at z
theorem fits_of (T : Bt.Tb t (hashes knd L)) (h : es.toList = ents knd L) (hr : L.length ≤ t.mask) : t.fits es.size = true := by
  have h1 := T.sz
  rw [hashes_len] at h1
  have h2 := size_of h
  unfold SetTable.fits SetTable.fill
  rw [T.dm, Bool.and_eq_true, beq_iff_eq, decide_eq_true_eq]
  show t.place.size = es.size ∧ t.place.size + 0 ≤ t.mask
  omega
theorem Hs.fits {h : Heap} (R : Hs knd h a L es ep t) : t.fits es.size = true := fits_of R.tab R.en (by have := R.room; omega)
theorem Hs.at {h : Heap} (R : Hs knd h a L es ep t) {i : Nat} {p : Addr × List κ} (e : L[i]? = some p) : es[i]? = some (tupleKeyHash knd p.2, Value.ref p.1) := by
  rw [← Array.getElem?_toList, R.en]
  unfold ents
  rw [List.getElem?_map, e]
  rfl
theorem Hs.ix {h : Heap} (R : Hs knd h a L es ep t) {i j : Nat} (e : t.place.toList[i]? = some j) : ∃ p, L[i]? = some p := by
  have h1 : i < t.place.toList.length := (List.getElem?_eq_some_iff.mp e).1
  have h2 := R.tab.sz
  rw [hashes_len] at h2
  rw [Array.length_toList] at h1
  exact ⟨L[i]'(by omega), List.getElem?_eq_getElem _⟩
/-- the search for a key, from the c-th place of its way on -/
theorem seek (R : Hs knd s.heap a L es ep t) {x : Addr} {k : List κ} (hx : IsTupleKey knd s.heap k x) (hu : A.units < cLine) {N : Nat} (hN : N < 10 * SetTable.turns t.mask) (hv : Int) (ehv : hv = tupleKeyHash knd k)
    (free : way t.mask hv N ∉ t.place.toList) (busy : ∀ c, c < N → way t.mask hv c ∈ t.place.toList) {Q : SetFound → Shared → Prop} (yes : k ∈ L.map (·.2) → Q (.there none) s) (no : k ∉ L.map (·.2) → Q (.free (way t.mask hv N) false) s) :
    ∀ (f c : Nat) (st : Option SetTable.Probe), st.getD (t.probeStart hv) = nth t.mask (runAt t.mask (SetTable.bits hv % (t.mask + 1)) (SetTable.bits hv)) c → c ≤ N → N - c < f →
      (∀ (i : Nat) p, L[i]? = some p → p.2 = k → ∃ c', c ≤ c' ∧ c' < N ∧ t.place.toList[i]? = some (way t.mask hv c')) → wpAny (model P w) A (setSearchFrom a (.ref x) hv true f st) Q E s
  | 0, _, _, _, _, z, _ => absurd z (Nat.not_lt_zero _)
  | f + 1, c, st, est, hc, hf, ahead => by
    obtain ⟨o, ho, hex, hd⟩ := R.ob
    rw [setSearchFrom_succ]
    refine wpAny_bind (wpAny_setState_of ho hd R.fits ?_)
    dsimp only
    refine wp_if_neg (by
      unfold SetTable.gaveWay
      rw [R.tab.msk.odd]
      decide) ?_
    try refine wpAny_bind (wpAny_pure ?_)
    generalize hr0 : runAt t.mask (SetTable.bits hv % (t.mask + 1)) (SetTable.bits hv) = r0 at est
    have dum : ∀ (n : Nat) (p : SetTable.Probe), p.dummy = none → (nth t.mask p n).dummy = none := by
      intro n
      induction n with
      | zero => exact fun p h => h
      | succ n ih =>
        intro p h
        refine ih (adv t.mask p) ?_
        unfold adv
        split <;> exact h
    have wy : ∀ m, way t.mask hv m = (nth t.mask r0 m).j := fun m => by rw [← hr0]
    have sh : ∀ m, nth t.mask (nth t.mask r0 c) m = nth t.mask r0 (c + m) := fun m => (nth_add t.mask c r0 m).symm
    have hj : ∀ m, (nth t.mask (nth t.mask r0 c) m).j = way t.mask hv (c + m) := fun m => by rw [sh, wy]
    have spec := go_spec t R.tab.ris R.tab.dm (fun i => (es[i]?.map (·.1)).getD 0) hv (10 * SetTable.turns t.mask) (N - c) (nth t.mask r0 c) (dum c r0 (by rw [← hr0]; rfl)) (by omega)
      (fun m hm => by rw [hj]; exact busy (c + m) (by omega)) (by rw [hj, show c + (N - c) = N by omega]; exact free)
    have ha : ∀ (i : Nat) p, L[i]? = some p → (fun i => (es[i]?.map (·.1)).getD 0) i = tupleKeyHash knd p.2 := fun i p e => by
      show (es[i]?.map (·.1)).getD 0 = _
      rw [R.at e]
      rfl
    rcases spec with ⟨m, i, hm, hi, hh, none', pr⟩ | ⟨none', pr⟩
    · have pr' : t.probe (fun i => (es[i]?.map (·.1)).getD 0) hv (st.getD (t.probeStart hv)) = some (.candidate (way t.mask hv (c + m)) i (nth t.mask r0 (c + (m + 1)))) := by
        rw [est, ← hj, ← sh]
        exact pr
      rw [pr']
      dsimp only
      rw [hj] at hi
      obtain ⟨p, hp⟩ := R.ix hi
      have hmem := List.mem_of_getElem? hp
      have go : wpAny (model P w) A (searchRest a (.ref x) hv true f es t (way t.mask hv (c + m)) i (nth t.mask r0 (c + (m + 1)))) Q E s := by
        unfold searchRest
        rw [R.at hp]
        dsimp only
        refine wpAny_bind (wpAny_holding (wpAny_eqBool_tuple hu (R.tup p hmem) hx ?_))
        refine wpAny_bind (wpAny_setState_of ho hd R.fits ?_)
        dsimp only
        by_cases hk : p.2 = k
        · exact wp_if_pos (by simp [hk]) (wpAny_pure (yes (List.mem_map.mpr ⟨p, hmem, hk⟩)))
        · refine wp_if_neg (by simp [hk]) ?_
          try refine wpAny_bind (wpAny_pure ?_)
          rw [sameMem]
          dsimp only
          have live : t.slot (way t.mask hv (c + m)) = .live i := slot_live R.tab.ris hi
          simp only [if_true, live, R.at hp]
          refine wpAny_bind (wpAny_isSame_ref_self (wpAny_bind (wpAny_pure ?_)))
          simp only [if_true]
          refine wp_if_neg (by simp [hk]) ?_
          refine seek R hx hu hN hv ehv free busy yes no f (c + (m + 1)) _ (by rw [hr0]; rfl) (by omega) (by omega) fun i0 p0 h0 hk0 => ?_
          obtain ⟨c', b1, b2, b3⟩ := ahead i0 p0 h0 hk0
          refine ⟨c', ?_, b2, b3⟩
          by_cases lt : c' < c + m
          · exact absurd ((ha i0 p0 h0).trans (by rw [hk0, ehv])) (none' (c' - c) i0 (by omega) (by rw [hj, show c + (c' - c) = c' by omega]; exact b3))
          · by_cases eq : c' = c + m
            · subst eq
              have s0 := slot_live R.tab.ris b3
              rw [live] at s0
              injection s0 with s0
              rw [← s0, hp] at h0
              exact absurd ((congrArg Prod.snd (Option.some.inj h0)).trans hk0) hk
            · omega
      by_cases hl : t.led = true
      · refine wp_if_neg (by simp [hl]) ?_
        try refine wpAny_bind (wpAny_pure ?_)
        exact go
      · refine wp_if_pos (by simp [hl]) (wpAny_bind (look_tup hx (fun y hy => ?_) ?_))
        · obtain ⟨e, he, ee⟩ := List.mem_map.mp hy
          have he1 : e ∈ es ∧ e.1 = hv := by simpa using he
          have he2 : e ∈ es.toList := by simpa using he1.1
          rw [R.en] at he2
          obtain ⟨p2, hp2, e2⟩ := List.mem_map.mp he2
          exact ⟨p2.2, p2.1, by rw [← ee, ← e2], R.tup p2 hp2⟩
        · refine wp_if_neg (by decide) ?_
          try refine wpAny_bind (wpAny_pure ?_)
          exact go
    · have pr' : t.probe (fun i => (es[i]?.map (·.1)).getD 0) hv (st.getD (t.probeStart hv)) = some (.empty (way t.mask hv N) none) := by
        rw [est, show way t.mask hv N = (nth t.mask (nth t.mask r0 c) (N - c)).j by rw [hj, show c + (N - c) = N by omega]]
        exact pr
      rw [pr']
      dsimp only
      refine wpAny_pure (no fun hin => ?_)
      obtain ⟨p0, h0, hk0⟩ := List.mem_map.mp hin
      obtain ⟨i0, hi0, e0⟩ := List.getElem_of_mem h0
      have h00 : L[i0]? = some p0 := by rw [List.getElem?_eq_getElem hi0, e0]
      obtain ⟨c', b1, b2, b3⟩ := ahead i0 p0 h00 hk0
      exact absurd ((ha i0 p0 h00).trans (by rw [hk0, ehv])) (none' (c' - c) i0 (by omega) (by rw [hj, show c + (c' - c) = c' by omega]; exact b3))
theorem seek0 (R : Hs knd s.heap a L es ep t) {x : Addr} {k : List κ} (hx : IsTupleKey knd s.heap k x) (hu : A.units < cLine) {Q : SetFound → Shared → Prop} (yes : k ∈ L.map (·.2) → Q (.there none) s)
    (no : ∀ N, k ∉ L.map (·.2) → way t.mask (tupleKeyHash knd k) N ∉ t.place.toList → (∀ c, c < N → way t.mask (tupleKeyHash knd k) c ∈ t.place.toList) → Q (.free (way t.mask (tupleKeyHash knd k) N) false) s) :
    wpAny (model P w) A (setSearch a (.ref x) (tupleKeyHash knd k) true) Q E s := by
  have hroom := R.room
  obtain ⟨N, hN, free, busy⟩ := R.tab.free (by rw [hashes_len]; omega) (tupleKeyHash knd k)
  have big : 10 * SetTable.turns t.mask ≤ 90000 := by
    unfold SetTable.turns
    rcases R.mb with e | e | e | e | e | e <;> omega
  unfold setSearch
  refine seek R hx hu hN _ rfl free busy yes (fun hn => no N hn free busy) 100000 0 none rfl (Nat.zero_le _) (by omega) fun i p hp hk => ?_
  have hsz := R.tab.sz
  rw [hashes_len] at hsz
  have hil : i < t.place.toList.length := by
    have := (List.getElem?_eq_some_iff.mp hp).1
    rw [Array.length_toList]
    omega
  obtain ⟨c, hc, e⟩ := R.tab.ahead free (i := i) (by unfold hashes; rw [List.getElem?_map, hp, ← hk]; rfl) (List.getElem?_eq_getElem hil)
  exact ⟨c, Nat.zero_le _, hc, by rw [List.getElem?_eq_getElem hil, e]⟩
end
end Sg
namespace Sg
open PySem PySem.Spec PyProof.Rows L2
section
variable {P : Program} {w : World} {κ : Type} [DecidableEq κ] {knd : KeyKind P w κ} {A : Around} {E : Value → Shared → Prop} {s : Shared} {a : Addr} {L : List (Addr × List κ)} {es : Array (Int × Value)} {ep : Nat} {t : SetTable}
/-- a tuple stays, where the set at a is written -/
theorem tup_but {h h' : Heap} {k : List κ} {b : Addr} {o : Obj} (hb : IsTupleKey knd h k b) (ho : h.get? a = some o) (hd : o.data = .set es ep t) (hs : Heap.SameBut a h h') : IsTupleKey knd h' k b := by
  obtain ⟨u, its, n, hu, hc, hdu, hi⟩ := hb
  refine ⟨u, its, n, (hs.2 b fun z => ?_).trans hu, hc, hdu, hi⟩
  subst z
  cases Option.some.inj (hu.symm.trans ho)
  rw [hd] at hdu
  cases hdu
theorem tup_stay {h h' : Heap} {k : List κ} {b : Addr} (x : IsTupleKey knd h k b) (hk : ∀ c o, h.get? c = some o → h'.get? c = some o) : IsTupleKey knd h' k b := by
  obtain ⟨o, its, n, ho, r⟩ := x
  exact ⟨o, its, n, hk b o ho, r⟩
theorem put_in {α : Type} (l : List α) (p : Nat) (x : α) : (l.take p ++ x :: l.drop p).Perm (x :: l) := by
  have z : (l.take p ++ x :: l.drop p).Perm (x :: (l.take p ++ l.drop p)) := List.perm_middle
  rwa [List.take_append_drop] at z
/-- rows picked by a rearrangement of their numbers are a rearrangement -/
theorem picked {α : Type} (l : List α) : ∀ ord : List Nat, ord.Perm (List.range l.length) → (ord.filterMap fun i => l[i]?).Perm l := by
  intro ord hp
  refine (hp.filterMap fun i => l[i]?).trans ?_
  have all : ∀ n, n ≤ l.length → (List.range n).filterMap (fun i => l[i]?) = l.take n := by
    intro n
    induction n with
    | zero => exact fun _ => rfl
    | succ n ih =>
      intro hn
      rw [List.range_succ, List.filterMap_append, ih (Nat.le_of_succ_le hn), List.take_add_one]
      simp [List.getElem?_eq_getElem hn]
  rw [all _ (Nat.le_refl _), List.take_length]
/-- the entries in another order are those of the rows in that order -/
theorem ents_pick (h : es.toList = ents knd L) (ord : Array Nat) (hp : ord.toList.Perm (List.range L.length)) :
    (ord.filterMap (es[·]?)).toList = ents knd (ord.toList.filterMap fun i => L[i]?) ∧ hashes knd (ord.toList.filterMap fun i => L[i]?) = ord.toList.map fun i => (es.map (·.1)).getD i 0 := by
  have key : ∀ l : List Nat, (∀ i ∈ l, i < L.length) → l.filterMap (fun i => es[i]?) = ents knd (l.filterMap fun i => L[i]?) ∧ hashes knd (l.filterMap fun i => L[i]?) = l.map fun i => (es.map (·.1)).getD i 0 := by
    intro l
    induction l with
    | nil => exact fun _ => ⟨rfl, rfl⟩
    | cons i l ih =>
      intro hl
      have hi := hl i List.mem_cons_self
      obtain ⟨e1, e2⟩ := ih fun j hj => hl j (List.mem_cons_of_mem _ hj)
      have ee : es[i]? = some (tupleKeyHash knd (L[i]).2, Value.ref (L[i]).1) := by
        rw [← Array.getElem?_toList, h]
        unfold ents
        rw [List.getElem?_map, List.getElem?_eq_getElem hi]
        rfl
      have eL : L[i]? = some L[i] := List.getElem?_eq_getElem hi
      rw [List.filterMap_cons_some ee, List.filterMap_cons_some eL]
      refine ⟨?_, ?_⟩
      · rw [e1]
        rfl
      · show tupleKeyHash knd (L[i]).2 :: hashes knd _ = _ :: _
        rw [e2]
        congr 1
        have e5 : (es.map (·.1))[i]? = some (tupleKeyHash knd (L[i]).2) := by
          rw [Array.getElem?_map, ee]
          rfl
        simp [Array.getD_eq_getD_getElem?, e5]
  obtain ⟨e1, e2⟩ := key ord.toList fun i hi => List.mem_range.mp (hp.mem_iff.mp hi)
  exact ⟨by first | (rw [Array.toList_filterMap]; exact e1) | simpa using e1, e2⟩
/-- the table laid anew, greater -/
theorem relay {o : Obj} (ho : s.heap.get? a = some o) (hex : o.ExactSet) (hd : o.data = .set es ep t) (en : es.toList = ents knd L) (T0 : Bt.Tb t (hashes knd L)) (hr : L.length ≤ t.mask) (nd : (L.map (·.2)).Nodup) (tup : ∀ p ∈ L, IsTupleKey knd s.heap p.2 p.1)
    (ld : w.params.followText "set-order" = true ∨ t.led = true) (few : L.length < 4000) {wanted M : Nat} (hw : SetTable.sizeAbove wanted - 1 = M) (hM : Bt.Mk M) (hb : Bt.MkB M) (hw2 : SetTable.sizeAbove wanted ≤ 8192) (hn : L.length * 5 < M * 3) {Q : Unit → Shared → Prop}
    (hQ : ∀ h' L' es' ep' t', Heap.SameBut a s.heap h' → Hs knd h' a L' es' ep' t' → L'.Perm L → Q () { s with heap := h' }) : wpAny (model P w) A (setRelay a wanted) Q E s := by
  have hsl := size_of en
  obtain ⟨t', ord, e, hp, T, em, el⟩ := Bt.anew t (a := es.map (·.1)) (wanted := wanted) hw hM (by rw [Array.size_map, hsl]; omega)
  rw [Array.size_map, hsl] at hp
  obtain ⟨r1, r2⟩ := ents_pick en ord hp
  have pm := picked L ord.toList hp
  rw [← r2] at T
  have hs2 : (ord.filterMap (es[·]?)).size = es.size := by
    rw [size_of r1, pm.length_eq, hsl]
  rw [setRelay_eq]
  refine wpAny_bind (wpAny_setState_of ho hd (fits_of T0 en hr) ?_)
  dsimp only
  refine wp_if_neg (by rw [sizeLine_eq]; omega) ?_
  try refine wpAny_bind (wpAny_pure ?_)
  rw [e]
  dsimp only
  refine wpAny_bind (wp_if_neg (by rw [hs2]; simp) ?_)
  try refine wpAny_bind (wpAny_pure ?_)
  refine wpAny_pure ?_
  dsimp only
  refine wpAny_storeSet_of ho hd ?_ (by rw [hs2, hsl, sizeLine_eq]; omega)
  have sb : Heap.SameBut a s.heap (s.heap.update a (Obj.putSet (ord.filterMap (es[·]?)) t')) := Heap.SameBut.update ..
  exact hQ _ _ _ (ep + 1) t' sb ⟨⟨_, store_at ho hd, ⟨hex.1, hex.2.1, hex.2.2⟩, rfl⟩, r1, T, by rw [em]; exact hb, (pm.map (·.2)).nodup_iff.mpr nd, fun p hpm => tup_but (tup p (pm.mem_iff.mp hpm)) ho hd sb, by rw [el]; exact ld, by rw [pm.length_eq, em]; exact hn, by rw [pm.length_eq]; exact few⟩ pm
/-- a key added -/
theorem put (R : Hs knd s.heap a L es ep t) {x : Addr} {k : List κ} (hx : IsTupleKey knd s.heap k x) (hu : A.units < cLine) (hfew : L.length + 1 < 4000) {Q : Bool → Shared → Prop}
    (hQ : ∀ b h' L' es' ep' t', Heap.SameBut a s.heap h' → Hs knd h' a L' es' ep' t' → (k ∈ L.map (·.2) → L' = L) → (k ∉ L.map (·.2) → L'.Perm ((x, k) :: L)) → Q b { s with heap := h' }) : wpAny (model P w) A (setAddHashed a (.ref x) (tupleKeyHash knd k)) Q E s := by
  obtain ⟨o, ho, hex, hd⟩ := R.ob
  have hsl := size_of R.en
  have hroom := R.room
  unfold setAddHashed
  refine wpAny_holding ?_
  rw [show (100000 : Nat) = 99999 + 1 from rfl, setAddHashedIn_succ]
  refine wpAny_bind (wpAny_setState_of ho hd R.fits ?_)
  dsimp only
  refine wp_if_neg (by simp [byScan, Value.scannable]) ?_
  try refine wpAny_bind (wpAny_pure ?_)
  refine wpAny_bind (seek0 R hx hu (fun hm => ?_) fun N hm free busy => ?_)
  · exact wpAny_pure (hQ false s.heap L es ep t (Heap.SameBut.refl a s.heap) R (fun _ => rfl) fun z => absurd hm z)
  · dsimp only
    refine wpAny_bind (wpAny_setState_of ho hd R.fits ?_)
    dsimp only
    obtain ⟨p0, q1, q2, q3, q4, q5, q9⟩ := R.tab.put free busy
    generalize hpt : t.put (way t.mask (tupleKeyHash knd k) N) = pt at q1 q3 q4 q5 q9 ⊢
    obtain ⟨t1, p⟩ := pt
    dsimp only at q1 q3 q4 q5 q9 ⊢
    subst q1
    have hin : (SetTable.insertAt es p (tupleKeyHash knd k, Value.ref x)).toList = ents knd (L.take p ++ (x, k) :: L.drop p) := by
      rw [SetTable.toList_insertAt, R.en]
      unfold ents
      rw [List.map_append, List.map_cons, List.map_take, List.map_drop]
    have pm := put_in L p (x, k)
    have hh : (hashes knd L).take p ++ tupleKeyHash knd k :: (hashes knd L).drop p = hashes knd (L.take p ++ (x, k) :: L.drop p) := by
      unfold hashes
      rw [List.map_append, List.map_cons, List.map_take, List.map_drop]
    rw [hh] at q3
    have nd1 : ((L.take p ++ (x, k) :: L.drop p).map (·.2)).Nodup := by
      refine (pm.map (·.2)).nodup_iff.mpr ?_
      rw [List.map_cons]
      exact List.nodup_cons.mpr ⟨hm, R.nd⟩
    have hlen : (L.take p ++ (x, k) :: L.drop p).length = L.length + 1 := pm.length_eq
    generalize L.take p ++ (x, k) :: L.drop p = L1 at pm hlen q3 nd1 hin
    generalize SetTable.insertAt es p (tupleKeyHash knd k, Value.ref x) = es1 at hin ⊢
    have hes := size_of hin
    -- behind the look at its hash: the table is t1, but for its mark
    have tail : ∀ t2 : SetTable, Bt.Tb t2 (hashes knd L1) → t2.mask = t.mask → t2.led = t.led → t2.fill = (hashes knd L).length + 1 →
        wpAny (model P w) A (do
          storeSet a es1 t2
          if !false && t2.tooFull then setRelay a (SetTable.grown (es.size + 1))
          return true) Q E s := fun t2 T2 m2 l2 f2 => by
      refine wpAny_bind (wpAny_storeSet_of ho hd ?_ (by rw [hes, hlen, sizeLine_eq]; omega))
      have sb : Heap.SameBut a s.heap (s.heap.update a (Obj.putSet es1 t2)) := Heap.SameBut.update ..
      have ho1 := store_at (es' := es1) (t' := t2) ho hd
      generalize s.heap.update a (Obj.putSet es1 t2) = h1 at sb ho1 ⊢
      have tup1 : ∀ p ∈ L1, IsTupleKey knd h1 p.2 p.1 := fun p hp => by
        rcases List.mem_cons.mp (pm.mem_iff.mp hp) with e | hp
        · rw [e]
          exact tup_but hx ho hd sb
        · exact tup_but (R.tup p hp) ho hd sb
      have ld1 : w.params.followText "set-order" = true ∨ t2.led = true := by
        rw [l2]
        exact R.led
      by_cases hf : t2.tooFull = true
      · first
          | (refine wpAny_bind ?_; refine wp_if_pos (by simp [hf]) ?_)
          | (refine wp_if_pos (by simp [hf]) ?_; refine wpAny_bind ?_)
        have full : (L.length + 1) * 5 ≥ t2.mask * 3 := by
          have z := hf
          unfold SetTable.tooFull at z
          rw [decide_eq_true_eq, f2, hashes_len] at z
          exact z
        rw [hsl]
        obtain ⟨M, g1, gb, g3, g4, gm, g5⟩ := Bt.grows R.mb hroom (by rw [← m2]; exact full) hfew
        exact relay (s := { s with heap := h1 }) ho1 ⟨hex.1, hex.2.1, hex.2.2⟩ rfl hin T2 (by rw [hlen, m2]; omega) nd1 tup1 ld1 (by rw [hlen]; exact hfew) g1 gm gb g3 (by rw [hlen]; exact g4)
            fun h2 L2 es2 ep2 t2 sb2 R2 pm2 => wpAny_pure (hQ true h2 L2 es2 ep2 t2 (sb.trans sb2) R2 (fun z => absurd z hm) fun _ => pm2.trans pm)
      · first
          | refine wp_if_neg (by simp [hf]) ?_
          | (refine wpAny_bind ?_; refine wp_if_neg (by simp [hf]) ?_; refine wpAny_pure ?_)
        refine wpAny_pure (hQ true h1 L1 es1 (ep + 1) t2 sb ⟨⟨_, ho1, ⟨hex.1, hex.2.1, hex.2.2⟩, rfl⟩, hin, T2, by rw [m2]; exact R.mb, nd1, tup1, ld1, ?_, by rw [hlen]; exact hfew⟩ (fun z => absurd z hm) fun _ => pm)
        have z := hf
        unfold SetTable.tooFull at z
        rw [decide_eq_true_eq, f2, hashes_len] at z
        rw [hlen]
        omega
    have both : ∀ y : Bool, wpAny (model P w) A (do
        storeSet a es1 (if y = true then t1 else { t1 with plain := false })
        if !false && (if y = true then t1 else { t1 with plain := false }).tooFull then setRelay a (SetTable.grown (es.size + 1))
        return true) Q E s := fun y => by
      cases y with
      | true => exact tail t1 q3 q4 q5 q9
      | false => exact tail { t1 with plain := false } (q3.mark false) q4 q5 q9
    by_cases hp1 : t1.plain = true
    · first
        | (refine wpAny_bind ?_; refine wp_if_pos hp1 ?_; refine hash_tup hx ?_)
        | refine wp_if_pos hp1 (wpAny_bind (hash_tup hx ?_))
      exact fun y => both y
    · first
        | (refine wpAny_bind ?_; refine wp_if_neg hp1 ?_; refine wpAny_pure ?_)
        | refine wp_if_neg hp1 (wpAny_bind (wpAny_pure ?_))
      exact both true
end
end Sg
namespace Sg
open PySem PySem.Spec PyProof.Rows L2
/-- what the first i of ks have brought -/
structure Brought {κ : Type} (ks : List (Addr × List κ)) (i : Nat) (L : List (Addr × List κ)) : Prop where
  of : ∀ p ∈ L, p ∈ ks.take i
  all : ∀ p ∈ ks.take i, p.2 ∈ L.map (·.2)
  len : L.length ≤ i
theorem Brought.again {κ : Type} {ks L : List (Addr × List κ)} {i : Nat} {x : Addr × List κ} (g : Brought ks i L) (e : ks[i]? = some x) (hm : x.2 ∈ L.map (·.2)) : Brought ks (i + 1) L := by
  have ht : ks.take (i + 1) = ks.take i ++ [x] := by
    rw [List.take_add_one, e]
    rfl
  refine ⟨fun p hp => by rw [ht]; exact List.mem_append_left _ (g.of p hp), fun p hp => ?_, Nat.le_succ_of_le g.len⟩
  rw [ht] at hp
  rcases List.mem_append.mp hp with z | z
  · exact g.all p z
  · rw [List.mem_singleton.mp z]
    exact hm
theorem Brought.more {κ : Type} {ks L L' : List (Addr × List κ)} {i : Nat} {x : Addr × List κ} (g : Brought ks i L) (e : ks[i]? = some x) (pm : L'.Perm (x :: L)) : Brought ks (i + 1) L' := by
  have ht : ks.take (i + 1) = ks.take i ++ [x] := by
    rw [List.take_add_one, e]
    rfl
  refine ⟨fun p hp => ?_, fun p hp => ?_, by rw [pm.length_eq, List.length_cons]; exact Nat.succ_le_succ g.len⟩
  · rw [ht]
    rcases List.mem_cons.mp (pm.mem_iff.mp hp) with z | z
    · rw [z]
      exact List.mem_append_right _ (List.mem_singleton.mpr rfl)
    · exact List.mem_append_left _ (g.of p z)
  · rw [(pm.map (·.2)).mem_iff, List.map_cons]
    rw [ht] at hp
    rcases List.mem_append.mp hp with z | z
    · exact List.mem_cons_of_mem _ (g.all p z)
    · rw [List.mem_singleton.mp z]
      exact List.mem_cons_self
section
variable {P : Program} {w : World} {κ : Type} [DecidableEq κ] {knd : KeyKind P w κ} {A : Around} {E : Value → Shared → Prop} {s : Shared}
abbrev nset (w : World) : Obj := { cls := .type "set", dict := none, data := .set #[] 0 (.fresh 0 0 (!w.params.followText "set-order")) }
theorem hs_new {h : Heap} {a : Addr} (ho : h.get? a = some (nset w)) : Hs knd h a [] #[] 0 (.fresh 0 0 (!w.params.followText "set-order")) where
  ob := ⟨_, ho, ⟨rfl, rfl, rfl⟩, rfl⟩
  en := rfl
  tab := ⟨List.Pairwise.nil, rfl, rfl, ⟨3, Nat.le_refl _, rfl⟩, fun x hx => (by cases hx), fun i h j hi => (by simp [hashes] at hi)⟩
  mb := .inl rfl
  nd := List.nodup_nil
  tup := fun p hp => (by cases hp)
  led := by
    show _ ∨ (!w.params.followText "set-order") = true
    cases w.params.followText "set-order"
    · exact .inr rfl
    · exact .inl rfl
  room := show 0 * 5 < 7 * 3 by decide
  few := show 0 < 4000 by decide
theorem Hs.stay {h h' : Heap} {a : Addr} {L : List (Addr × List κ)} {es : Array (Int × Value)} {ep : Nat} {t : SetTable} (R : Hs knd h a L es ep t) (ha : ∀ o, h.get? a = some o → h'.get? a = some o) (ht : ∀ p ∈ L, IsTupleKey knd h' p.2 p.1) : Hs knd h' a L es ep t := by
  obtain ⟨o, ho, r⟩ := R.ob
  exact ⟨⟨o, ha o ho, r⟩, R.en, R.tab, R.mb, R.nd, ht, R.led, R.room, R.few⟩
/-- the loop that fills a set -/
theorem fill {I : Addr} {fp wr : List Addr} {G : Array GenState → Array GenState → Prop} {n : Nat} {Pv : Nat → Value → Prop} {St : Nat → Shared → Prop} {R : Result → Shared → Prop} (W : WalksS P w A.in1 I fp wr G n Pv St) (S : Addr) (hSf : S ∉ fp) (ks : List (Addr × List κ))
    (hn : n = ks.length) (hfew : ks.length < 4000) (hval : ∀ i v, Pv i v → ∃ p, ks[i]? = some p ∧ v = .ref p.1) (h0 : Heap) (hk : ∀ p ∈ ks, IsTupleKey knd h0 p.2 p.1) (hS0 : h0.get? S = none) (hw0 : ∀ b ∈ wr, h0.get? b = none) (hu : A.in1.units < cLine) :
    ∀ (left i : Nat) (s : Shared), n - i = left → i ≤ n → St i s → (∀ b o, h0.get? b = some o → s.heap.get? b = some o) → (∃ L es ep t, Hs knd s.heap S L es ep t ∧ Brought ks i L) →
      (∀ s' L es ep t, Moved (S :: wr) G s s' → Hs knd s'.heap S L es ep t → Brought ks n L → (∀ b o, h0.get? b = some o → s'.heap.get? b = some o) → R (.ok (.ret .none)) s') → codeAny (model P w) A (.builtin "set.update.loop" ⟨[.ref S, .ref I], []⟩) R s := by
  have hSw : S ∉ wr := fun z => hSf (W.sub _ z)
  have wide : ∀ b ∈ wr, b ∈ S :: wr := fun b hb => List.mem_cons_of_mem _ hb
  have kept : ∀ {s s' : Shared}, Moved wr G s s' → (∀ b o, h0.get? b = some o → s.heap.get? b = some o) → ∀ b o, h0.get? b = some o → s'.heap.get? b = some o := fun hm kp b o e => hm.heap b o (fun hb => by rw [hw0 b hb] at e; cases e) (kp b o e)
  intro left
  induction left with
  | zero =>
    intro i s hl hi hst kp ⟨L, es, ep, t, hS, g⟩ hR
    obtain rfl : i = n := by omega
    refine codeAny_builtin F.entry_set_update_loop ?_
    rw [Around.under_plainId F.plain_set_update_loop _]
    show wpAny _ A.in1 (pyNext (.ref I) >>= _) _ _ s
    refine wpAny_bind (W.done s _ _ hst fun s' hm => ?_)
    show wpAny _ A.in1 (ret Value.none) _ _ s'
    have kp' := kept hm kp
    exact wpAny_pure (hR s' L es ep t (hm.mono wide) (hS.stay (fun o e => hm.heap S o hSw e) fun p hp => tup_stay (hk p (List.mem_of_mem_take (g.of p hp))) kp') g kp')
  | succ left ih =>
    intro i s hl hi hst kp ⟨L, es, ep, t, hS, g⟩ hR
    have lt : i < n := by omega
    refine codeAny_builtin F.entry_set_update_loop ?_
    rw [Around.under_plainId F.plain_set_update_loop _]
    show wpAny _ A.in1 (pyNext (.ref I) >>= _) _ _ s
    refine wpAny_bind (W.item i s _ _ lt hst fun v s' hP hst' hm => ?_)
    obtain ⟨p, hp, rfl⟩ := hval i v hP
    have kp' := kept hm kp
    have hS' : Hs knd s'.heap S L es ep t := hS.stay (fun o e => hm.heap S o hSw e) fun q hq => tup_stay (hk q (List.mem_of_mem_take (g.of q hq))) kp'
    have hx := tup_stay (hk p (List.mem_of_getElem? hp)) kp'
    show wpAny _ A.in1 (holding [Value.ref p.1] (setAdd S (.ref p.1)) >>= _) _ _ s'
    refine wpAny_bind (wpAny_holding ?_)
    unfold setAdd
    refine wpAny_holding (wpAny_bind (wpAny_pyHash_tuple hu hx ?_))
    refine put (s := { s' with toks := s'.toks + (p.2.length + 1) }) hS' hx hu (by have := g.len; omega) fun b h' L' es' ep' t' hsb hS2 c1 c2 => ?_
    have g' : Brought ks (i + 1) L' := by
      by_cases c : p.2 ∈ L.map (·.2)
      · rw [c1 c]
        exact g.again hp c
      · exact g.more hp (c2 c)
    have kp2 : ∀ b o, h0.get? b = some o → h'.get? b = some o := fun b o e => (hsb.2 b (fun z => by rw [z, hS0] at e; cases e)).trans (kp' b o e)
    refine wpAny_pure ⟨plainId_quiet F.plain_set_update_loop _, ih (i + 1) _ (by omega) lt (W.frame _ s' _ _ hst' (Nat.le_add_right _ _) fun b hb o e => ?_) kp2 ⟨L', es', ep', t', hS2, g'⟩ fun s2 L2 es2 ep2 t2 hm2 hS3 g3 kp3 => ?_⟩
    · rw [hsb.2 b (fun z : b = S => hSf (by rw [← z]; exact hb))]
      exact e
    · refine hR s2 L2 es2 ep2 t2 (Moved.trans W.gtrans ((hm.mono wide).then_heap (Nat.le_add_right _ _) fun b o hb e => ?_) hm2) hS3 g3 kp3
      rw [hsb.2 b (fun z : b = S => hb (by rw [z]; exact List.mem_cons_self))]
      exact e
set_option maxHeartbeats 3200000 in
/-- set(xs), xs a list of such tuples -/
theorem set_of_list {l : Addr} {items : Array Value} (ks : List (Addr × List κ)) {Q : Value → Shared → Prop} (hh : A.handled = none) (hl : s.heap.IsList l items) (hit : items.toList = ks.map fun p => Value.ref p.1) (hk : ∀ p ∈ ks, IsTupleKey knd s.heap p.2 p.1) (hfew : ks.length < 4000) (hu : A.units + 3 < cLine)
    (h : ∀ (h' : Heap) (tk : Nat) L es ep t, Hs knd h' s.heap.objs.size L es ep t → Brought ks ks.length L → (∀ b o, s.heap.get? b = some o → h'.get? b = some o) → Q (.ref s.heap.objs.size) { s with heap := h', toks := tk }) : wpAny (model P w) A (call (.type "set") [.ref l]) Q E s := by
  have isz : items.size = ks.length := by
    have z := congrArg List.length hit
    rwa [Array.length_toList, List.length_map] at z
  obtain ⟨c, tl, hmro⟩ := F.called_set.mro
  have m1 := F.called_set.made
  have m2 := F.called_set.sub
  refine wpAny_call (codeAny_of_tree ?_)
  show wpAny _ _ (callAny (.type "set") _) _ _ _
  refine wpAny_pure ⟨Code.quiet_builtin _ (by decide +kernel), codeAny_builtin F.entry_type_call ?_⟩
  rw [Around.under_plain (weight_type_call_type "set" [.ref l] []) rfl]
  have m3 := F.called_set.notType
  have m4 := F.called_set.canCreate
  have m5 := F.typeCall_set_1 (.ref l)
  repeat (any_goals (first
    | assumption
    | wp_step))
  refine codeAny_mono (code_set_led1 (.ref l) (E := E) (Q₁ := fun ob s₁ => ob = .ref s.heap.objs.size ∧ s₁ = { s with heap := s.heap.push (nset w) }) ⟨rfl, rfl⟩) fun r s₁ hr => ?_
  cases r with
  | error e => exact hr
  | ok fl =>
    cases fl with
    | ret ob =>
      obtain ⟨rfl, rfl⟩ := hr
      have hS : (s.heap.push (nset w)).get? s.heap.objs.size = some (nset w) := Heap.get?_push_size _ rfl
      have hT : Shared.TypeIs { s with heap := s.heap.push (nset w) } (.ref s.heap.objs.size) "set" := ⟨_, hS, rfl⟩
      have i1 := F.called_set.init.lookup
      have i2 := F.called_set.init.bind (.ref s.heap.objs.size)
      repeat (any_goals (first
        | assumption
        | wp_step))
      refine codeAny_mono (codeAny_call_builtin (R := wants (fun r s₂ => r = .none ∧ ∃ h' tk L es ep t, s₂ = { s with heap := h', toks := tk } ∧ Hs knd h' s.heap.objs.size L es ep t ∧ Brought ks ks.length L ∧ ∀ b o, s.heap.get? b = some o → h'.get? b = some o) E) F.called_set.init.plain F.entry_set_init (check_set_init_1 hT ?_)) fun r₂ s₂ hr₂ => ?_
      · obtain ⟨⟨oc, od, oda, osl⟩, hol, hcl, nl, hdl⟩ := hl
        simp only at hcl hdl
        subst hcl hdl
        have hol1 := Heap.get?_push_of_some (nset w) hol
        have b1 := F.sub_list_set
        have b2 := F.sub_list_frozenset
        have b3 : (Value.type "list" == Value.type "dict") = false := by decide
        have hl1 : (s.heap.push (nset w)).IsList l items := ⟨_, hol1, rfl, nl, rfl⟩
        unfold Builtin.«set.__init__» noKeywords Builtin.Frozenset.updateFrom
        generalize hPI : pyIter = PI
        wp_walk
        subst hPI
        refine wpAny_pyIter_list hl1 (wpAny_bind (wpAny_runValue ?_))
        have ls : l < s.heap.objs.size := Heap.lt_size hol
        have h3 : A.in1.in1.in1.handled = none := by simp [hh]
        have sz : (s.heap.push (nset w)).objs.size = s.heap.objs.size + 1 := Heap.size_push ..
        have ne : l ≠ (s.heap.push (nset w)).objs.size := by
          rw [sz]
          exact Nat.ne_of_lt (Nat.lt_succ_of_lt ls)
        have out : ∀ b, s.heap.objs.size ≤ b → s.heap.get? b = none := fun b hb => by
          cases q : s.heap.get? b with
          | none => rfl
          | some o => exact absurd (Nat.lt_of_lt_of_le (Heap.lt_size q) hb) (Nat.lt_irrefl _)
        refine fill ((Walks.list h3 _ l ne items).toS) s.heap.objs.size ?_ ks isz hfew (fun i v hv => ?_) s.heap hk (out _ (Nat.le_refl _)) (fun b hb => out b (by rw [List.mem_singleton.mp hb, sz]; exact Nat.le_succ _)) hu (items.size - 0) 0 _ (by omega) (Nat.zero_le _)
          ⟨⟨_, Heap.get?_push_size _ rfl, rfl, rfl⟩, hl1.push _⟩ (fun b o e => Heap.get?_push_of_some _ (Heap.get?_push_of_some _ e)) ⟨[], #[], 0, _, hs_new (Heap.get?_push_of_some _ hS), ⟨(fun p z => nomatch z), (fun p z => (by simp at z)), Nat.le_refl _⟩⟩ ?_
        · rw [sz]
          simp only [List.mem_cons, List.not_mem_nil, or_false, not_or]
          exact ⟨Nat.ne_of_lt (Nat.lt_succ_self _), Nat.ne_of_gt ls⟩
        · have q : items.toList[i]? = some v := by
            rw [Array.getElem?_toList]
            exact hv
          rw [hit, List.getElem?_map] at q
          cases hq : ks[i]? with
          | none =>
            rw [hq] at q
            cases q
          | some p =>
            rw [hq] at q
            exact ⟨p, rfl, (Option.some.inj q).symm⟩
        · intro s' L es ep t hm hS' g' kp
          obtain ⟨h', g2, d', tk', os'⟩ := s'
          obtain rfl : g2 = s.gens := hm.gens
          obtain rfl : d' = s.drawn := hm.drawn
          obtain rfl : os' = s.os := hm.os
          show wpAny _ _ _ _ _ _
          refine wpAny_pure ?_
          show wpAny _ _ (ret Value.none) _ _ _
          rw [isz] at g'
          exact wpAny_pure ⟨rfl, h', tk', L, es, ep, t, rfl, hS', g', kp⟩
      · cases r₂ with
        | error e => exact hr₂
        | ok fl₂ =>
          cases fl₂ with
          | ret r =>
            obtain ⟨rfl, h', tk, L, es, ep, t, rfl, hS', g', kp⟩ := hr₂
            repeat (any_goals (first
              | assumption
              | wp_step))
            exact h _ _ _ _ _ _ hS' g' kp
          | _ => exact hr₂.elim
    | _ => exact hr.elim
set_option maxHeartbeats 3200000 in
/-- set(xs), xs a tuple of such tuples -/
theorem set_of_tuple {l : Addr} {items : Array Value} (ks : List (Addr × List κ)) {Q : Value → Shared → Prop} (hh : A.handled = none) (hl : s.heap.IsTuple l items) (hit : items.toList = ks.map fun p => Value.ref p.1) (hk : ∀ p ∈ ks, IsTupleKey knd s.heap p.2 p.1) (hfew : ks.length < 4000) (hu : A.units + 3 < cLine)
    (h : ∀ (h' : Heap) (tk : Nat) L es ep t, Hs knd h' s.heap.objs.size L es ep t → Brought ks ks.length L → (∀ b o, s.heap.get? b = some o → h'.get? b = some o) → Q (.ref s.heap.objs.size) { s with heap := h', toks := tk }) : wpAny (model P w) A (call (.type "set") [.ref l]) Q E s := by
  have isz : items.size = ks.length := by
    have z := congrArg List.length hit
    rwa [Array.length_toList, List.length_map] at z
  obtain ⟨c, tl, hmro⟩ := F.called_set.mro
  have m1 := F.called_set.made
  have m2 := F.called_set.sub
  refine wpAny_call (codeAny_of_tree ?_)
  show wpAny _ _ (callAny (.type "set") _) _ _ _
  refine wpAny_pure ⟨Code.quiet_builtin _ (by decide +kernel), codeAny_builtin F.entry_type_call ?_⟩
  rw [Around.under_plain (weight_type_call_type "set" [.ref l] []) rfl]
  have m3 := F.called_set.notType
  have m4 := F.called_set.canCreate
  have m5 := F.typeCall_set_1 (.ref l)
  repeat (any_goals (first
    | assumption
    | wp_step))
  refine codeAny_mono (code_set_led1 (.ref l) (E := E) (Q₁ := fun ob s₁ => ob = .ref s.heap.objs.size ∧ s₁ = { s with heap := s.heap.push (nset w) }) ⟨rfl, rfl⟩) fun r s₁ hr => ?_
  cases r with
  | error e => exact hr
  | ok fl =>
    cases fl with
    | ret ob =>
      obtain ⟨rfl, rfl⟩ := hr
      have hS : (s.heap.push (nset w)).get? s.heap.objs.size = some (nset w) := Heap.get?_push_size _ rfl
      have hT : Shared.TypeIs { s with heap := s.heap.push (nset w) } (.ref s.heap.objs.size) "set" := ⟨_, hS, rfl⟩
      have i1 := F.called_set.init.lookup
      have i2 := F.called_set.init.bind (.ref s.heap.objs.size)
      repeat (any_goals (first
        | assumption
        | wp_step))
      refine codeAny_mono (codeAny_call_builtin (R := wants (fun r s₂ => r = .none ∧ ∃ h' tk L es ep t, s₂ = { s with heap := h', toks := tk } ∧ Hs knd h' s.heap.objs.size L es ep t ∧ Brought ks ks.length L ∧ ∀ b o, s.heap.get? b = some o → h'.get? b = some o) E) F.called_set.init.plain F.entry_set_init (check_set_init_1 hT ?_)) fun r₂ s₂ hr₂ => ?_
      · obtain ⟨⟨oc, od, oda, osl⟩, hol, hcl, nl, hdl⟩ := hl
        simp only at hcl hdl
        subst hcl hdl
        have hol1 := Heap.get?_push_of_some (nset w) hol
        have b1 := F.sub_tuple_set
        have b2 := F.sub_tuple_frozenset
        have b3 : (Value.type "tuple" == Value.type "dict") = false := by decide
        have hl1 : (s.heap.push (nset w)).IsTuple l items := ⟨_, hol1, rfl, nl, rfl⟩
        unfold Builtin.«set.__init__» noKeywords Builtin.Frozenset.updateFrom
        generalize hPI : pyIter = PI
        wp_walk
        subst hPI
        refine wpAny_pyIter_tuple hl1 (wpAny_bind (wpAny_runValue ?_))
        have ls : l < s.heap.objs.size := Heap.lt_size hol
        have h3 : A.in1.in1.in1.handled = none := by simp [hh]
        have sz : (s.heap.push (nset w)).objs.size = s.heap.objs.size + 1 := Heap.size_push ..
        have ne : l ≠ (s.heap.push (nset w)).objs.size := by
          rw [sz]
          exact Nat.ne_of_lt (Nat.lt_succ_of_lt ls)
        have out : ∀ b, s.heap.objs.size ≤ b → s.heap.get? b = none := fun b hb => by
          cases q : s.heap.get? b with
          | none => rfl
          | some o => exact absurd (Nat.lt_of_lt_of_le (Heap.lt_size q) hb) (Nat.lt_irrefl _)
        refine fill ((Walks.tuple h3 _ l ne items).toS) s.heap.objs.size ?_ ks isz hfew (fun i v hv => ?_) s.heap hk (out _ (Nat.le_refl _)) (fun b hb => out b (by rw [List.mem_singleton.mp hb, sz]; exact Nat.le_succ _)) hu (items.size - 0) 0 _ (by omega) (Nat.zero_le _)
          ⟨⟨_, Heap.get?_push_size _ rfl, rfl, rfl⟩, hl1.push _⟩ (fun b o e => Heap.get?_push_of_some _ (Heap.get?_push_of_some _ e)) ⟨[], #[], 0, _, hs_new (Heap.get?_push_of_some _ hS), ⟨(fun p z => nomatch z), (fun p z => (by simp at z)), Nat.le_refl _⟩⟩ ?_
        · rw [sz]
          simp only [List.mem_cons, List.not_mem_nil, or_false, not_or]
          exact ⟨Nat.ne_of_lt (Nat.lt_succ_self _), Nat.ne_of_gt ls⟩
        · have q : items.toList[i]? = some v := by
            rw [Array.getElem?_toList]
            exact hv
          rw [hit, List.getElem?_map] at q
          cases hq : ks[i]? with
          | none =>
            rw [hq] at q
            cases q
          | some p =>
            rw [hq] at q
            exact ⟨p, rfl, (Option.some.inj q).symm⟩
        · intro s' L es ep t hm hS' g' kp
          obtain ⟨h', g2, d', tk', os'⟩ := s'
          obtain rfl : g2 = s.gens := hm.gens
          obtain rfl : d' = s.drawn := hm.drawn
          obtain rfl : os' = s.os := hm.os
          show wpAny _ _ _ _ _ _
          refine wpAny_pure ?_
          show wpAny _ _ (ret Value.none) _ _ _
          rw [isz] at g'
          exact wpAny_pure ⟨rfl, h', tk', L, es, ep, t, rfl, hS', g', kp⟩
      · cases r₂ with
        | error e => exact hr₂
        | ok fl₂ =>
          cases fl₂ with
          | ret r =>
            obtain ⟨rfl, h', tk, L, es, ep, t, rfl, hS', g', kp⟩ := hr₂
            repeat (any_goals (first
              | assumption
              | wp_step))
            exact h _ _ _ _ _ _ hS' g' kp
          | _ => exact hr₂.elim
    | _ => exact hr.elim
end
end Sg
/-! Sorting ties: tuples of a sign and numbers. -/
namespace Sg
open PySem PySem.Spec PyProof.Rows L2
def numV : Value → Int
  | .int i _ => i
  | .str z _ => ((z.cps.toList.headD 0 : Nat) : Int)
  | _ => 0
def numK : Key → Int
  | .inl i => i
  | .inr z => ((z.cps.toList.headD 0 : Nat) : Int)
/-- the numbers by which a tuple is ordered, read off the heap -/
def numsOf (h : Heap) : Value → List Int
  | .ref a => match h.get? a with
    | some o => match o.data with
      | .seq xs _ => xs.toList.map numV
      | _ => []
    | none => []
  | _ => []
/-- a sign, then numbers; all below B -/
def TieK (B : Int) (d : Nat) (k : List Key) : Prop := ∃ (c : Nat) (ns : List Int), k = .inr ⟨#[c]⟩ :: ns.map Sum.inl ∧ ns.length + 1 = d ∧ TS.Bd B ((c : Int) :: ns)
theorem TieK.len {B : Int} {d : Nat} {k : List Key} (t : TieK B d k) : k.length = d := by
  obtain ⟨c, ns, rfl, l, _⟩ := t
  rw [List.length_cons, List.length_map, l]
section
variable {P : Program} {w : World} {A : Around} {E : Value → Shared → Prop} {s : Shared}
theorem is_shape {k : Key} {v : Value} (h : (mixKind P w).is k v = true) : (∃ i t, k = Sum.inl i ∧ v = Value.int i t) ∨ (∃ x t, k = Sum.inr x ∧ v = Value.str x t) := keyIs_shape (k := k) (v := v) h
theorem nums_items {k : List Key} {vs : List Value} (h : ItemsAre (mixKind P w) k vs) : vs.map numV = k.map numK := by
  induction h with
  | nil => rfl
  | @cons k0 v ks vs h1 _ ih =>
    rw [List.map_cons, List.map_cons, ih]
    rcases is_shape h1 with ⟨i, t, rfl, rfl⟩ | ⟨x, t, rfl, rfl⟩ <;> rfl
theorem nums_at {h : Heap} {k : List Key} {a : Addr} (x : IsTupleKey (mixKind P w) h k a) : numsOf h (.ref a) = k.map numK := by
  obtain ⟨o, its, n, ho, hc, hd, hi⟩ := x
  simp only [numsOf, ho, hd]
  exact nums_items hi
theorem ints_items : ∀ {ns : List Int} {vs : List Value}, ItemsAre (mixKind P w) (ns.map Sum.inl) vs → IntsAre vs ns
  | [], _, .nil => .nil
  | n :: ns, _, .cons h1 t => by
    rcases is_shape h1 with ⟨i, tk, e, rfl⟩ | ⟨x, tk, e, rfl⟩
    · cases e
      exact .cons n tk (ints_items t)
    · cases e
theorem nums_inl (ns : List Int) : (ns.map (Sum.inl : Int → Key)).map numK = ns := by
  rw [List.map_map]
  exact List.map_id' ns
theorem lt_one (c e : Nat) : decide (([c] : List Nat) < [e]) = decide ((c : Int) < (e : Int)) := by
  refine decide_eq_decide.mpr ⟨fun h => ?_, fun h => ?_⟩
  · cases h with
    | rel h => exact Int.ofNat_lt.mpr h
    | cons h => cases h
  · exact List.Lex.rel (Int.ofNat_lt.mp h)
/-- two ties: the sign first, then the numbers -/
theorem lex_tie {B : Int} {d : Nat} {k k' : List Key} {xs ys : List Value} {Q : Bool → Shared → Prop} (hx : ItemsAre (mixKind P w) k xs) (hy : ItemsAre (mixKind P w) k' ys) (t1 : TieK B d k) (t2 : TieK B d k') (h : Q (decide (TS.code B (k.map numK) < TS.code B (k'.map numK))) s) :
    PySem.W.KatLex P w A true false Q (xs.zip ys) 0 s := by
  obtain ⟨c, ns, rfl, l1, b1⟩ := t1
  obtain ⟨e, ms, rfl, l2, b2⟩ := t2
  cases hx with
  | cons h1 hx =>
    cases hy with
    | cons h2 hy =>
      rcases is_shape h1 with ⟨i, tk, z, _⟩ | ⟨x, tk, z, rfl⟩
      · cases z
      · cases z
        rcases is_shape h2 with ⟨i, tk2, z, _⟩ | ⟨x, tk2, z, rfl⟩
        · cases z
        · cases z
          rw [List.map_cons, List.map_cons, nums_inl, nums_inl] at h
          have h' : Q (decide (TS.code B ((c : Int) :: ns) < TS.code B ((e : Int) :: ms))) s := h
          show PySem.W.KatLex P w A true false Q ((Value.str ⟨#[c]⟩ tk, Value.str ⟨#[e]⟩ tk2) :: _) 0 s
          refine PySem.W.kat_cons (wpAny_eqBool_str ?_)
          have hl : ns.length = ms.length := by omega
          by_cases q : c = e
          · subst q
            rw [decide_eq_true rfl]
            refine PySem.W.kat_yes (TS.lex_ints 1 (ints_items hx) (ints_items hy) hl b1.tail b2.tail ?_)
            rw [← decide_eq_decide.mpr (TS.code_same (B := B) (d := (c : Int)) hl)]
            exact h'
          · rw [decide_eq_false (show ¬ (⟨#[c]⟩ : Str) = ⟨#[e]⟩ from fun z => q (by injection z with z; injection z with z; injection z))]
            refine PySem.W.kat_no (oneLt_str ?_)
            have dd : decide (TS.code B ((c : Int) :: ns) < TS.code B ((e : Int) :: ms)) = decide ((c : Int) < (e : Int)) := by
              refine decide_eq_decide.mpr ⟨fun z => ?_, fun z => TS.code_lt hl b1.tail b2.tail z⟩
              rcases Int.lt_trichotomy (c : Int) (e : Int) with y | y | y
              · exact y
              · exact absurd (Int.ofNat.inj y) q
              · have := TS.code_lt hl.symm b2.tail b1.tail y
                omega
            rw [dd, ← lt_one] at h'
            exact h'
/-- the values at hand are ties -/
def Ties (P : Program) (w : World) (h : Heap) (B : Int) (d : Nat) (vs : List Value) : Prop := ∀ v ∈ vs, ∃ a k, v = Value.ref a ∧ IsTupleKey (mixKind P w) h k a ∧ TieK B d k
theorem ties_firsts {h : Heap} {B : Int} {d : Nat} : ∀ vs : List Value, Ties P w h B d vs → ∃ fs, PySem.W.KatTups h vs fs ∧ fs.length = vs.length ∧ ∀ f, f ∈ fs → ∃ z t, f = Value.str z t
  | [], _ => ⟨[], PySem.W.KatTups.nil, rfl, fun f hf => by simp at hf⟩
  | v :: vs, x => by
    obtain ⟨fs, k1, l1, i1⟩ := ties_firsts vs fun u hu => x u (List.mem_cons_of_mem _ hu)
    obtain ⟨a, k, rfl, ⟨o, its, n, ho, hc, hd, hi⟩, c, ns, rfl, _⟩ := x v List.mem_cons_self
    cases q : its.toList with
    | nil =>
      rw [q] at hi
      cases hi
    | cons y ys =>
      rw [q] at hi
      cases hi with
      | cons h1 _ =>
        rcases is_shape h1 with ⟨i, tk, z, _⟩ | ⟨z, tk, _, rfl⟩
        · cases z
        · refine ⟨_ :: fs, PySem.W.KatTups.cons ho hc hd (f := .str z tk) (by rw [← Array.getElem?_toList, q]; rfl) k1, by rw [List.length_cons, List.length_cons, l1], fun f hf => ?_⟩
          rcases List.mem_cons.mp hf with e | hf
          · exact ⟨z, tk, e⟩
          · exact i1 f hf
theorem Ties.keep {h h' : Heap} {B : Int} {d : Nat} {vs : List Value} (x : Ties P w h B d vs) (k : ∀ b o, h.get? b = some o → o.cls = .type "tuple" → h'.get? b = some o) : Ties P w h' B d vs := fun v hv => by
  obtain ⟨a, q, e, ⟨o, its, n, ho, hc, r⟩, t⟩ := x v hv
  exact ⟨a, q, e, ⟨o, its, n, k _ _ ho hc, hc, r⟩, t⟩
theorem swo_num (r : Value → Int) : SrtO.Swo (fun v u => decide (r v < r u)) := by
  refine ⟨fun x y h => ?_, fun x y z h1 h2 => ?_⟩
  · have := of_decide_eq_true h
    exact decide_eq_false (by omega)
  · have := of_decide_eq_false h1
    have := of_decide_eq_false h2
    exact decide_eq_false (by omega)
/-- list.sort of ties, any number of them -/
theorem sort_ties {a : Addr} {vs : List Value} {n d : Nat} {B : Int} {Q : PySem.Fin → Shared → Prop} (ho : s.heap.get? a = some (seqObj "list" vs.toArray n)) (hz : vs.length ≤ sizeLine) (x : Ties P w s.heap B d vs) (r : Value → Int) (hr : ∀ v ∈ vs, r v = TS.code B (numsOf s.heap v))
    (h : ∀ out : Array Value, out.toList.Perm vs → out.toList.Pairwise (fun u v => r u ≤ r v) → Q (.done (.ret .none)) { s with heap := sortedHeap s.heap a vs out }) : wpAny (model P w) A (Builtin.«list.sort» ⟨[.ref a], []⟩) Q E s := by
  refine SrtO.list_sort_ord (swo_num r) ho hz (fun h2 h3 keep => ?_) fun out hs hb => ?_
  · have hk : ∀ b o, s.heap.get? b = some o → o.cls = .type "tuple" → h3.get? b = some o := fun b o e c => keep b o (fun z => by
      subst z
      rw [ho] at e
      cases e
      have c' : Value.type "list" = Value.type "tuple" := c
      injection c' with c'
      exact absurd c' (by decide)) e
    have x3 := x.keep hk
    obtain ⟨fs, kt, hl, hi⟩ := ties_firsts vs x3
    refine ⟨tuples' true, fun Q' E' hq => ?_, fun p q hp hq => ?_⟩
    · refine PySem.W.kat_kind (T := Value.type "str") kt (by omega) (fun f hf => ?_) rfl ?_
      · obtain ⟨z, t, rfl⟩ := hi f hf
        exact PySem.W.Looks.of_pure rfl
      · have e : (Value.type "str" != Value.type "tuple") = true := by first | decide +kernel | rfl | decide
        rw [e]
        exact hq
    · have e1 := hr _ hp
      have e2 := hr _ hq
      have same : ∀ {v : Value}, v ∈ vs → numsOf h3 v = numsOf s.heap v := fun {v} hv => by
        obtain ⟨b, k, rfl, xb, _⟩ := x v hv
        rw [nums_at xb]
        obtain ⟨o, its, m, hb, hc, hd, hi⟩ := xb
        rw [nums_at (P := P) (w := w) (k := k) ⟨o, its, m, hk _ _ hb hc, hc, hd, hi⟩]
      rw [← same hp] at e1
      rw [← same hq] at e2
      obtain ⟨b1, k, ea, xa, ta⟩ := x3 _ hp
      obtain ⟨b2, k', eb, xb, tb⟩ := x3 _ hq
      show wpAny (model P w) A (keyLt' (tuples' true) p.1 q.1) (fun y s' => s' = _ ∧ y = decide (r p.1 < r q.1)) (fun _ _ => False) _
      rw [e1, e2, ea, eb, nums_at xa, nums_at xb]
      obtain ⟨o, its, n, ho, hc, hd, hia⟩ := xa
      obtain ⟨o', its', n', ho', hc', hd', hib⟩ := xb
      refine PySem.W.kat_lt ho hd ho' hd' ?_
      have sz : decide (its.size < its'.size) = false := by
        have l1 := hia.length
        have l2 := hib.length
        have z1 : its.toList.length = its.size := by simp
        have z2 : its'.toList.length = its'.size := by simp
        have q1 := ta.len
        have q2 := tb.len
        exact decide_eq_false (by omega)
      rw [sz]
      exact lex_tie (s := { s with heap := h3 }) hia hib ta tb ⟨rfl, rfl⟩
  · refine h out.toArray (by simpa using hb.perm) ?_
    have hs' : out.Pairwise fun u v => decide (r v < r u) = false := hs
    have z : out.Pairwise fun u v => r u ≤ r v := hs'.imp fun {u v} e => by
      have := of_decide_eq_false e
      omega
    simpa using z
end
end Sg
namespace Sg
open PySem PySem.Spec PyProof.Rows L2
abbrev TK := Addr × List Key
abbrev ordOf (B : Int) (p : TK) : Int := TS.code B (p.2.map numK)
abbrev refs (ks : List TK) : List V := ks.map fun p => V.ref p.1
abbrev refsV (ks : List TK) : List Value := ks.map fun p => Value.ref p.1
section
variable {P : Program} {w : World} {A : Around} {E : Value → Shared → Prop} {s : Shared}
/-- values that are a rearrangement of references are the references of a rearrangement -/
theorem pick_perm : ∀ {vs : List Value} {ks : List TK}, vs.Perm (refsV ks) → ∃ ks' : List TK, vs = refsV ks' ∧ ks'.Perm ks := by
  intro vs ks h
  generalize e : refsV ks = us at h
  induction h generalizing ks with
  | nil =>
    cases ks with
    | nil => exact ⟨[], rfl, .nil⟩
    | cons _ _ => cases e
  | @cons x l1 l2 h ih =>
    cases ks with
    | nil => cases e
    | cons p r =>
      obtain ⟨e1, e2⟩ := List.cons.inj e
      obtain ⟨k', e3, pm⟩ := ih e2
      exact ⟨p :: k', by rw [e3, ← e1]; rfl, .cons p pm⟩
  | swap x y l =>
    cases ks with
    | nil => cases e
    | cons p r =>
      cases r with
      | nil => cases (List.cons.inj e).2
      | cons q r =>
        obtain ⟨e1, e2⟩ := List.cons.inj e
        obtain ⟨e3, e4⟩ := List.cons.inj e2
        exact ⟨q :: p :: r, by rw [← e1, ← e3, ← e4]; rfl, .swap p q r⟩
  | trans h1 h2 ih1 ih2 =>
    obtain ⟨k2, e2, p2⟩ := ih2 e
    obtain ⟨k1, e1, p1⟩ := ih1 e2.symm
    exact ⟨k1, e1, p1.trans p2⟩
theorem ties_of {h : Heap} {B : Int} {d : Nat} {ks : List TK} (hk : ∀ p ∈ ks, IsTupleKey (mixKind P w) h p.2 p.1) (ht : ∀ p ∈ ks, TieK B d p.2) : Ties P w h B d (refsV ks) := fun v hv => by
  obtain ⟨p, hp, rfl⟩ := List.mem_map.mp hv
  exact ⟨p.1, p.2, rfl, hk p hp, ht p hp⟩
/-- a list just laid, sorted -/
theorem sort_new {ks : List TK} {d : Nat} {B : Int} {a : Addr} {n : Nat} {Q : PySem.Fin → Shared → Prop} (ho : s.heap.get? a = some (seqObj "list" (refsV ks).toArray n)) (h64 : ks.length < 4000) (hk : ∀ p ∈ ks, IsTupleKey (mixKind P w) s.heap p.2 p.1) (ht : ∀ p ∈ ks, TieK B d p.2)
    (h : ∀ (out : Array Value) (ks' : List TK), out.toList = refsV ks' → ks'.Perm ks → ks'.Pairwise (fun p q => ordOf B p ≤ ordOf B q) → Q (.done (.ret .none)) { s with heap := sortedHeap s.heap a (refsV ks) out }) :
    wpAny (model P w) A (Builtin.«list.sort» ⟨[.ref a], []⟩) Q E s := by
  refine sort_ties ho (by rw [List.length_map, sizeLine_eq]; omega) (ties_of hk ht) (fun v => TS.code B (numsOf s.heap v)) (fun v _ => rfl) fun out pm pw => ?_
  obtain ⟨ks', e, pk⟩ := pick_perm pm
  refine h out ks' e pk ?_
  rw [e] at pw
  refine List.Pairwise.imp_of_mem (fun {p q} hp hq hle => ?_) (List.pairwise_map.mp pw)
  rw [nums_at (hk p (pk.mem_iff.mp hp)), nums_at (hk q (pk.mem_iff.mp hq))] at hle
  exact hle
/-- sorted(xs) of a list -/
theorem sorted_list {l : Addr} {ks : List TK} {d : Nat} {B : Int} {Q : Value → Shared → Prop} (hl : s.heap.IsList l (refsV ks).toArray) (h64 : ks.length < 4000) (hk : ∀ p ∈ ks, IsTupleKey (mixKind P w) s.heap p.2 p.1) (ht : ∀ p ∈ ks, TieK B d p.2)
    (h : ∀ (h' : Heap) (p : Addr) (c : Nat) (out : Array Value) (ks' : List TK), (∀ b o, s.heap.get? b = some o → h'.get? b = some o) → s.heap.objs.size ≤ p → h'.get? p = some (seqObj "list" out c) → out.toList = refsV ks' → ks'.Perm ks → ks'.Pairwise (fun p q => ordOf B p ≤ ordOf B q) → Q (.ref p) { s with heap := h' }) :
    wpAny (model P w) A (call (.builtin "sorted") [.ref l]) Q E s := by
  have hz : (refsV ks).length < 4000 := by
    rw [List.length_map]
    exact h64
  refine Calls.call_function_entry kind_sorted plain_sorted entry_sorted (args_sorted1 _) ?_
  unfold Builtin.«sorted»
  refine wpAny_bind (m := checkCount "sorted" 1 1 _) (wpAny_pure (wpAny_bind (collect_list hl ?_ (by rw [sizeLine_eq]; omega))))
  refine wpAny_bind (wpAny_newList ?_ (by rw [sizeLine_eq]; omega))
  have sz : ((s.heap.push (seqObj "list" #[] 0)).update s.heap.objs.size (Obj.mapSeq (· ++ (refsV ks).toArray))).objs.size = s.heap.objs.size + 1 := by
    rw [Heap.size_update, size_push']
  have k0 : ∀ b o, s.heap.get? b = some o → ((s.heap.push (seqObj "list" #[] 0)).update s.heap.objs.size (Obj.mapSeq (· ++ (refsV ks).toArray))).get? b = some o := fun b o e => by
    have lt := Heap.lt_size e
    rw [Heap.get?_update_ne _ _ _ _ (Nat.ne_of_lt lt)]
    exact Heap.get?_push_of_some _ e
  show wpAny _ _ _ _ _ { s with heap := ((s.heap.push (seqObj "list" #[] 0)).update s.heap.objs.size (Obj.mapSeq (· ++ (refsV ks).toArray))).push (seqObj "list" (refsV ks).toArray 0) }
  generalize (s.heap.push (seqObj "list" #[] 0)).update s.heap.objs.size (Obj.mapSeq (· ++ (refsV ks).toArray)) = h0 at sz k0 ⊢
  have hoL : (h0.push (seqObj "list" (refsV ks).toArray 0)).get? h0.objs.size = some (seqObj "list" (refsV ks).toArray 0) := Heap.get?_push_size _ rfl
  have k1 : ∀ b o, s.heap.get? b = some o → (h0.push (seqObj "list" (refsV ks).toArray 0)).get? b = some o := fun b o e => Heap.get?_push_of_some _ (k0 b o e)
  refine wpAny_bind (wpAny_holding (wpAny_call_entry slot_list_sort ⟨_, hoL, rfl⟩ entry_list_sort (sort_new (s := { s with heap := h0.push (seqObj "list" (refsV ks).toArray 0) }) hoL h64 (fun p hp => tup_stay (hk p hp) k1) ht fun out ks' eo pk pw => ⟨_, rfl, ?_⟩) (args_list_sort _)))
  obtain ⟨c, hc⟩ := sortedHeap_at (out := out) hoL
  refine wpAny_pure ⟨_, rfl, h _ h0.objs.size c out ks' (fun b o e => ?_) (by omega) hc eo pk pw⟩
  have lt : b < h0.objs.size := Heap.lt_size (k0 b o e)
  rw [sortedHeap_old (Nat.ne_of_lt lt) (by rw [size_push']; exact Nat.lt_succ_of_lt lt)]
  exact k1 b o e
/-- sorted(s) of a set of ties -/
theorem sorted_set {a : Addr} {L : List TK} {es : Array (Int × Value)} {ep : Nat} {t : SetTable} {Q : Value → Shared → Prop} (R : Hs (mixKind P w) s.heap a L es ep t) (hh : A.handled = none) {d : Nat} {B : Int} (ht : ∀ p ∈ L, TieK B d p.2)
    (h : ∀ (s' : Shared) (p : Addr) (c : Nat) (out : Array Value) (L' : List TK), (∀ b o, s.heap.get? b = some o → s'.heap.get? b = some o) → s'.gens = s.gens → s'.os = s.os → s.heap.objs.size ≤ p → s'.heap.get? p = some (seqObj "list" out c) → out.toList = refsV L' → L'.Perm L →
      L'.Pairwise (fun p q => ordOf B p ≤ ordOf B q) → Q (.ref p) s') : wpAny (model P w) A (call (.builtin "sorted") [.ref a]) Q E s := by
  obtain ⟨o, ho, hex, hd⟩ := R.ob
  have hsz := size_of R.en
  have hfew := R.few
  refine Calls.call_function_entry kind_sorted plain_sorted entry_sorted (args_sorted1 _) ?_
  unfold Builtin.«sorted»
  refine wpAny_bind (m := checkCount "sorted" 1 1 _) (wpAny_pure ?_)
  refine wpAny_bind (collect_set (A := A.in1) hh ⟨o, ho, hex.1, hd⟩ R.fits (by unfold scanBound; omega) R.tab.ris R.led fun s1 vs k1 hz g1 o1 pm => ?_)
  have hes : es.toList.map (·.2) = refsV L := by
    rw [R.en]
    unfold ents
    rw [List.map_map]
    rfl
  rw [hes] at pm
  obtain ⟨L1, rfl, p1⟩ := pick_perm pm
  have hlen : L1.length < 4000 := by
    rw [p1.length_eq]
    exact hfew
  refine wpAny_bind (wpAny_newList ?_ (by rw [List.length_map, sizeLine_eq]; omega))
  have hoL : (s1.heap.push (seqObj "list" (refsV L1).toArray 0)).get? s1.heap.objs.size = some (seqObj "list" (refsV L1).toArray 0) := Heap.get?_push_size _ rfl
  have k2 : ∀ b o, s.heap.get? b = some o → (s1.heap.push (seqObj "list" (refsV L1).toArray 0)).get? b = some o := fun b o e => Heap.get?_push_of_some _ (k1 b o e)
  refine wpAny_bind (wpAny_holding (wpAny_call_entry slot_list_sort ⟨_, hoL, rfl⟩ entry_list_sort (sort_new (s := { s1 with heap := s1.heap.push (seqObj "list" (refsV L1).toArray 0) }) hoL hlen (fun p hp => tup_stay (R.tup p (p1.mem_iff.mp hp)) k2) (fun p hp => ht p (p1.mem_iff.mp hp)) fun out L' eo pk pw => ⟨_, rfl, ?_⟩) (args_list_sort _)))
  obtain ⟨c, hc⟩ := sortedHeap_at (out := out) hoL
  refine wpAny_pure ⟨_, rfl, h _ s1.heap.objs.size c out L' (fun b u e => ?_) g1 o1 hz hc eo (pk.trans p1) pw⟩
  have lt := Heap.lt_size (k1 b u e)
  show (sortedHeap (s1.heap.push (seqObj "list" (refsV L1).toArray 0)) s1.heap.objs.size (refsV L1) out).get? b = some u
  rw [sortedHeap_old (Nat.ne_of_lt lt) (by rw [size_push']; exact Nat.lt_succ_of_lt lt)]
  exact k2 b u e
end
/-! ### over the layer -/
def SetX (P : Program) (w : World) (a : Addr) (L : List TK) : HO := .ext fun h => ∃ (es : Array (Int × Value)) (ep : Nat) (t : SetTable), (∃ o, h.get? a = some o ∧ o.ExactSet ∧ o.data = .set es ep t) ∧ es.toList = ents (mixKind P w) L ∧ Bt.Tb t (hashes (mixKind P w) L) ∧ Bt.MkB t.mask ∧ (L.map (·.2)).Nodup ∧
  (w.params.followText "set-order" = true ∨ t.led = true) ∧ L.length * 5 < t.mask * 3 ∧ L.length < 4000
theorem setX_new {P : Program} {w : World} {H : Hp} {h : Heap} {a : Addr} {L : List TK} {es : Array (Int × Value)} {ep : Nat} {t : SetTable} (R : Hs (mixKind P w) h a L es ep t) : ObjOk P w H h a (SetX P w a L) := by
  obtain ⟨o, ho, r⟩ := R.ob
  refine ⟨⟨es, ep, t, ⟨o, ho, r⟩, R.en, R.tab, R.mb, R.nd, R.led, R.room, R.few⟩, ⟨o, ho⟩, fun h1 h2 z k => ?_⟩
  obtain ⟨e1, e2, e3, ⟨u, hu, r'⟩, q⟩ := z
  exact ⟨e1, e2, e3, ⟨u, k u hu, r'⟩, q⟩
theorem keys_items {P : Program} {w : World} : ∀ {k : List Key} {us : List Value}, Vals (k.map kV) us → ItemsAre (mixKind P w) k us
  | [], _, .nil => .nil
  | .inl i :: k, _, .cons r t => by
    obtain ⟨tk, rfl⟩ := r
    exact .cons (mixKind_int P w i tk) (keys_items t)
  | .inr z :: k, _, .cons r t => by
    obtain ⟨tk, rfl⟩ := r
    exact .cons (mixKind_str P w z tk) (keys_items t)
theorem refs_vals : ∀ {ks : List TK} {us : List Value}, Vals (refs ks) us → us = refsV ks
  | [], _, .nil => rfl
  | p :: ks, _, .cons r t => by
    cases r
    rw [refs_vals t]
    rfl
theorem vals_refs : ∀ ks : List TK, Vals (refs ks) (refsV ks)
  | [] => .nil
  | p :: ks => .cons rfl (vals_refs ks)
section
variable {X : Cx} {pins : List (Addr × Obj)} {σ : L2.St} {H : Hp} {s : Shared}
theorem key_at (I : L2.Inv X pins σ H s) {b : Addr} {k : List Key} (h : SqT X.K H b (k.map kV)) : IsTupleKey (mixKind X.prog X.w) s.heap k b := by
  obtain ⟨its, r, ⟨o, ho, hc, n, hd⟩, _⟩ := I.tuple h
  exact ⟨o, its.toArray, n, ho, hc, hd, by simpa using keys_items r⟩
/-- set(xs) -/
def rSetX (K : PySem.W.Frag) (P : Program) (w : World) : List V → Hp → VK → Prop := fun xs H Q => ∃ l ks, xs = [V.ref l] ∧ (SqL K H l (refs ks) ∨ SqT K H l (refs ks)) ∧ (∀ p ∈ ks, SqT K H p.1 (p.2.map kV)) ∧ ks.length < 4000 ∧
  ∀ a L, H a = none → (∀ p ∈ L, p ∈ ks) → (∀ p ∈ ks, p.2 ∈ L.map (·.2)) → Q (.ref a) (upd H a (SetX P w a L))
theorem cr_setX (hc : X.calm = true) (hu : X.A.units + 64 < cLine) : CallR X (.type "set") (rSetX X.K X.prog X.w) := by
  rintro pins s σ H xs us Q I r ⟨l, ks, rfl, hl, hk, hf, q⟩
  rw [Vals.ref1 r]
  have hn : H s.heap.objs.size = none := I.hok.fresh (Nat.le_refl _)
  have fin : ∀ (h' : Heap) (tk : Nat) (L : List TK) es ep t, Hs (mixKind X.prog X.w) h' s.heap.objs.size L es ep t → Brought ks ks.length L → (∀ b o, s.heap.get? b = some o → h'.get? b = some o) → EP X pins σ Q (.ref s.heap.objs.size) { s with heap := h', toks := tk } := fun h' tk L es ep t R g k =>
    ⟨.ref s.heap.objs.size, upd H s.heap.objs.size (SetX X.prog X.w s.heap.objs.size L), I.laid (t' := tk) k (Nat.le_refl _) (setX_new R), rfl, q _ L hn (fun p hp => List.mem_of_mem_take (g.of p hp)) fun p hp => g.all p (by rw [List.take_length]; exact hp)⟩
  rcases hl with hl | hl
  · obtain ⟨its, rv, pl, hz⟩ := I.list hl
    exact set_of_list ks (I.ok.hd hc) pl.isList (by simpa using refs_vals rv) (fun p hp => key_at I (hk p hp)) hf (by omega) fin
  · obtain ⟨its, rv, pl, hz⟩ := I.tuple hl
    exact set_of_tuple ks (I.ok.hd hc) pl (by simpa using refs_vals rv) (fun p hp => key_at I (hk p hp)) hf (by omega) fin
/-- sorted(s), s such a set, or a list of ties -/
def rSortX (K : PySem.W.Frag) (P : Program) (w : World) : List V → Hp → VK → Prop := fun vs H Q => ∃ a L d B, vs = [V.ref a] ∧ (H a = some (SetX P w a L) ∨ (SqL K H a (refs L) ∧ L.length < 4000)) ∧ (∀ p ∈ L, SqT K H p.1 (p.2.map kV)) ∧ (∀ p ∈ L, TieK B d p.2) ∧
  ∀ L' p, L'.Perm L → L'.Pairwise (fun p q => ordOf B p ≤ ordOf B q) → (H a = some (SetX P w a L) → (L'.map (·.2)).Nodup) → H p = none → Q (.ref p) (upd H p (.lst (refs L')))
theorem cr_sortX (hc : X.calm = true) : CallR X (.builtin "sorted") (rSortX X.K X.prog X.w) := by
  rintro pins s σ H vs us Q I r ⟨a, L, d, B, rfl, ha, hk, ht, q⟩
  rw [Vals.ref1 r]
  by_cases hset : H a = some (SetX X.prog X.w a L)
  · obtain ⟨⟨es, ep, t, ob, en, tab, mb, nd, led, room, few⟩, _, _⟩ := I.hok a _ hset
    refine sorted_set ⟨ob, en, tab, mb, nd, fun p hp => key_at I (hk p hp), led, room, few⟩ (I.ok.hd hc) ht fun s' p c out L' k g o hp hg ho pm pw => ?_
    have hlen : (refs L').length ≤ sizeLine := by
      rw [List.length_map, pm.length_eq, sizeLine_eq]
      omega
    have hn : H p = none := I.hok.fresh hp
    have hv : Vals (refs L') out.toList := by
      rw [ho]
      exact vals_refs L'
    have J := I.call (h' := s'.heap) (g' := s'.gens) (d' := s'.drawn) (t' := s'.toks) (ch := []) (Un.laid k hp hn) (I.hok.laid (o := .lst (refs L')) k hp ⟨hlen, out.toList, c, hv, hg⟩) (by rw [g]; exact I.bare) (fun _ z => nomatch z)
    have e : s' = { s with heap := s'.heap, gens := s'.gens, drawn := s'.drawn, toks := s'.toks } := by
      obtain ⟨a1, a2, a3, a4, a5⟩ := s'
      dsimp only at o
      subst o
      rfl
    rw [e]
    exact ⟨.ref p, _, J, rfl, q L' p pm pw (fun _ => (pm.map (·.2)).nodup_iff.mpr nd) hn⟩
  · rcases ha with ha | ⟨hl, h64⟩
    · exact absurd ha hset
    · obtain ⟨its, rv, pl, hz⟩ := I.list hl
      have ei := refs_vals rv
      subst ei
      refine sorted_list pl.isList h64 (fun p hp => key_at I (hk p hp)) ht fun h' p c out L' k hp hg ho pm pw => ?_
      have hlen : (refs L').length ≤ sizeLine := by
        rw [List.length_map, pm.length_eq, sizeLine_eq]
        omega
      have hv : Vals (refs L') out.toList := by
        rw [ho]
        exact vals_refs L'
      exact ⟨.ref p, _, I.laid (o := .lst (refs L')) (t' := s.toks) k hp ⟨hlen, out.toList, c, hv, hg⟩, rfl, q L' p pm pw (fun z => absurd z hset) (I.hok.fresh hp)⟩
end
end Sg
/-! list(text), d.setdefault(tuple, ..), enumerate(tuple). -/
namespace PySem
open Sem (wp)
theorem enum_one {v : Value} {o : Obj} {H : Heap → Prop} (B : Begins v o H) :
    Meets (Builtin.«enumerate.__new__» ⟨[.type "enumerate", v], []⟩) (fun _ R s => H s.heap ∧ R (.ok (.ret (.ref (s.heap.push o).objs.size))) { s with heap := (s.heap.push o).push { cls := .type "enumerate", data := .fields #[.none, .bool false, .ref s.heap.objs.size, rawInt 0, .none, .none] } }) :=
  .of_wp fun prog w A R s h => by
    obtain ⟨hp, g, d, tk, os⟩ := s
    obtain ⟨h1, h⟩ := h
    have z0 := sub_enumerate
    have go : ∀ {A' : Around} {E : Value → Shared → Prop} {Q : Value → Shared → Prop}, Q (.ref hp.objs.size) ⟨hp.push o, g, d, tk, os⟩ → wpAny (model prog w) A' (pyIter v) Q E ⟨hp, g, d, tk, os⟩ := fun q => B.iter prog w _ _ ⟨hp, g, d, tk, os⟩ _ h1 q
    wp_walk using go
    refine wpAny_stack_any fun st => wpAny_pure ?_
    split
    · rename_i c _ _ _ _ _
      cases (c == Value.type "enumerate")
      · wp_walk using go
        exact ⟨_, rfl, h⟩
      · wp_walk using go
        exact ⟨_, rfl, h⟩
    · wp_walk using go
      exact ⟨_, rfl, h⟩
theorem enum_tuple {prog : Program} {w : World} {A : Around} {E : Value → Shared → Prop} {s : Shared} {l : Addr} {items : Array Value} {Q : Value → Shared → Prop} (ht : s.heap.IsTuple l items)
    (h : ∀ h', IsEnum h' (s.heap.objs.size + 1) s.heap.objs.size 0 .none → h'.IsTupleIter s.heap.objs.size l 0 → h'.IsTuple l items → (∀ b o, s.heap.get? b = some o → h'.get? b = some o) → Q (.ref (s.heap.objs.size + 1)) { s with heap := h' }) :
    wpAny (model prog w) A (call (.type "enumerate") [.ref l]) Q E s := by
  refine callType_new F.called_enumerate (by decide) (F.typeCall_enumerate_1 _) (F.newCall_enumerate_1 _) (fun ob => F.args_object_init_2 ob _) F.entry_enumerate_new (enum_one (begins_tuple l items)) ⟨ht, ?_⟩
  have hz : (s.heap.push { cls := .type "tuple_iterator", data := .fields #[.ref l, .int 0 0] }).objs.size = s.heap.objs.size + 1 := Heap.size_push ..
  have kk : ∀ b o, s.heap.get? b = some o → ((s.heap.push { cls := .type "tuple_iterator", data := .fields #[.ref l, .int 0 0] }).push { cls := .type "enumerate", data := .fields #[.none, .bool false, .ref s.heap.objs.size, rawInt 0, .none, .none] }).get? b = some o := fun b o e => Heap.get?_push_of_some _ (Heap.get?_push_of_some _ e)
  have he : IsEnum ((s.heap.push { cls := .type "tuple_iterator", data := .fields #[.ref l, .int 0 0] }).push { cls := .type "enumerate", data := .fields #[.none, .bool false, .ref s.heap.objs.size, rawInt 0, .none, .none] }) (s.heap.objs.size + 1) s.heap.objs.size 0 .none := by
    have q := Heap.get?_push_size (s.heap.push { cls := .type "tuple_iterator", data := .fields #[.ref l, .int 0 0] }) (o := { cls := .type "enumerate", data := .fields #[.none, .bool false, .ref s.heap.objs.size, rawInt 0, .none, .none] }) rfl
    rw [hz] at q
    exact q
  show _ ∧ _
  rw [hz]
  exact ⟨⟨_, he, rfl⟩, h _ he ⟨_, Heap.get?_push_of_some _ (Heap.get?_push_size _ rfl), rfl, rfl⟩ (ht.at fun o e => kk l o e) kk⟩
end PySem
namespace Sg
open PySem PySem.Spec PyProof.Rows L2
/-! ### list('abc') -/
def signsV (z : Str) : List V := z.cps.toList.map fun c => V.str ⟨#[c]⟩
def rListS : List V → Hp → VK → Prop := fun xs H Q => ∃ z, xs = [.str z] ∧ z.length ≤ 1000 ∧ ∀ p, H p = none → Q (.ref p) (upd H p (.lst (signsV z)))
theorem cr_listS {X : Cx} (hc : X.calm = true) : CallR X (.type "list") rListS := by
  rintro pins s σ H xs us Q I r ⟨z, rfl, hz, q⟩
  obtain ⟨u, rfl, ⟨t, rfl⟩⟩ := vals1 r
  have hn : z.cps.size ≤ sizeLine := Nat.le_of_lt (small1000 hz)
  refine call_list_str (hn := hn) (I.ok.hd hc) z t fun h' tk acc c kk ho hi => ?_
  have hlen : (signsV z).length = z.cps.size := by
    unfold signsV
    rw [List.length_map, Array.length_toList]
  have hv : Vals (signsV z) acc.toList := by
    refine vals_of_at ?_ fun j x u hx hu => ?_
    · rw [hlen, Array.length_toList, hi.1]
    · unfold signsV at hx
      rw [List.getElem?_map] at hx
      rw [Array.getElem?_toList] at hu
      have sg := hi.2 j u hu
      obtain ⟨cc, tt, hcc, rfl⟩ := sg
      rw [Array.getElem?_toList, hcc] at hx
      cases hx
      exact ⟨_, rfl⟩
  exact ⟨.ref s.heap.objs.size, _, I.laid (o := .lst (signsV z)) (t' := tk) kk (Nat.le_refl _) ⟨by rw [hlen]; exact hn, acc.toList, c, hv, ho⟩, rfl, q _ (I.hok.fresh (Nat.le_refl _))⟩
/-! ### d.setdefault(k, x), k a tuple -/
section
variable {X : Cx} {pins : List (Addr × Obj)} {σ : L2.St} {H : Hp} {s : Shared} {a b : Addr} {r : Value} {y : V} {k : List Key} {A : Around} {E : Value → Shared → Prop}
theorem d_setT {kvs : List (List Key × V)} {Q : Value → Shared → Prop} (hu : A.units + 1 < cLine) (I : L2.Inv X pins σ H s) (e : H a = some (.dT kvs)) (eb : H b = some (.tup (k.map kV))) (rd : L2.RelV y r) (hl : kvs.length < sizeLine)
    (h1 : ∀ v, valV kvs k = some v → ∀ (u : Value) (s' : Shared), L2.Inv X pins σ H s' → L2.RelV v u → Q u s') (h2 : valV kvs k = none → ∀ (u : Value) (s' : Shared), L2.Inv X pins σ (upd H a (.dT (putK kvs k y))) s' → L2.RelV y u → Q u s') :
    wpAny (model X.prog X.w) A (call (.builtin "dict.setdefault") [.ref a, .ref b, r]) Q E s := by
  obtain ⟨z, hd, xs, rel, dd⟩ := dt_of I.hok e
  have hz : xs.length ≤ sizeLine := by
    rw [← Paired.length rel]
    exact z
  have q := rel.val k
  refine call_setdefault_heap (hsz := hz) (tupleKind_room_in1 hu) (key_of I.hok eb) hd dd (fun p hp => ?_) fun hn h' dd' hs => ?_
  · rw [hp] at q
    cases q0 : valV kvs k with
    | none =>
      rw [q0] at q
      exact (show False from q).elim
    | some v0 =>
      rw [q0] at q
      exact h1 v0 q0 _ _ (I.tok _) q
  · rw [hn] at q
    cases q0 : valV kvs k with
    | some v0 =>
      rw [q0] at q
      exact (show False from q).elim
    | none =>
      have hl2 : (putK kvs k y).length ≤ sizeLine := by
        have := length_putK kvs k y
        omega
      obtain ⟨ob, es, ep, hq, g2, g3, g4, _, g5⟩ := dd'
      refine h2 q0 _ _ (d_write I (by rw [e]; exact True.intro) hs ⟨ob, hq⟩ ⟨hl2, hd, _, (rel.put k eb rd).keeps fun c ys ec => ?_, ob, es, ep, hq, g2, g3, g4, g5⟩) rd
      rw [upd_ne (ne_of ec e (fun z => nomatch z))]
      exact ec
end
def tSetT (td ty tx : TE) : TE := fun σ H Q => td σ H fun x G => ∃ a kv0, x = .ref a ∧ G a = some (.dT kv0) ∧ ty σ G fun y J => tx σ J fun z L => ∃ b kvs k, y = .ref b ∧ L a = some (.dT kvs) ∧ L b = some (.tup (k.map kV)) ∧ kvs.length < sizeLine ∧
  (∀ v, valV kvs k = some v → Q v L) ∧ (valV kvs k = none → Q z (upd L a (.dT (putK kvs k z))))
theorem pe_setT {X : Cx} {o e f : Expr} {td ty tx : TE} {apos cpos : Pos} (hu : X.A.units + 1 < cLine) (ho : PE X o td) (he : PE X e ty) (hf : PE X f tx) (m : M2 X o "setdefault" apos e f cpos) : PE X (.Call (.Attribute o "setdefault" apos) [e, f] [] cpos) (tSetT td ty tx) := by
  refine ⟨fun pins s σ H Q I h => wpAny_Call_method m.base m.few m.line PySem.F.plainAttrs_dict PySem.F.slot_dict_setdefault PySem.F.type_dict_setdefault (thn (ho.run pins s σ H _ I h) fun u s1 ⟨x, G, I1, rx, a, kv0, ex, d, q1⟩ => ?_)⟩
  subst ex
  obtain rfl : u = Value.ref a := rx
  obtain ⟨t1, t2, _⟩ := isD_at I1 (a := a) (by first | exact .inr ⟨_, .inl d⟩ | exact ⟨_, .inr d⟩ | exact .inr ⟨_, d⟩ | (unfold IsD; simp [d]))
  refine ⟨t1, t2, ?_⟩
  rw [m.trees]
  refine Calls.callWith_builtin rfl (Calls.evalArgs_plain (Calls.spliced_cons (thn (he.run pins s1 σ G _ I1 q1) fun iv s2 ⟨y, J, I2, ry, q2⟩ =>
    Calls.spliced_cons (thn (hf.run pins s2 σ J _ I2 q2) fun fv s3 ⟨z, L, I3, rz, b, kvs, k, ey, ea, eb, hl, q3, q4⟩ => Calls.spliced_nil ?_))))
  subst ey
  cases (show iv = Value.ref b from ry)
  exact d_setT hu I3 ea eb rz hl (fun v hv u' s4 I4 r' => ⟨v, _, I4, r', q3 v hv⟩) fun hn u' s4 I4 r' => ⟨z, _, I4, r', q4 hn⟩
/-! ### for i, x in enumerate(xs), xs a list or a tuple -/
def IteT (K : PySem.W.Frag) (a : Addr) : It :=
  ⟨fun i H => ∃ xs x, SqT K H a xs ∧ xs[i]? = some x, fun i H v H' => ∃ T x, v = .ref T ∧ H T = none ∧ H' = upd H T (.tup [.int (i : Nat), x]) ∧ ∀ xs, SqT K H a xs → xs[i]? = some x, fun i H => ∃ xs, SqT K H a xs ∧ xs.length ≤ i⟩
theorem walk_enumT {K : PySem.W.Frag} {a : Addr} {xs : List V} : Walk (IteT K a) xs.length (fun H => SqT K H a xs) (YPair (fun i => some (.int (i : Nat))) (fun i => xs[i]?)) where
  goes := fun i H hi g => ⟨xs, xs[i], g, List.getElem?_eq_getElem hi⟩
  stops := fun H g => ⟨xs, g, Nat.le_refl _⟩
  yields := fun i H v H' hi g y => by
    obtain ⟨T, x, e, n, eH, h1⟩ := y
    exact ⟨T, _, x, e, n, eH, rfl, h1 _ g⟩
theorem turn_enumT {P : Program} {w : World} {K : PySem.W.Frag} {elts : List Expr} {kk : Nat} {tpos : Pos} {its : List Value} (a e it : Addr) (hne : e ≠ it) (hea : e ≠ a) (hia : a ≠ it) :
    Turn P w K (.Tuple elts kk tpos) (IteT K a) [e, it] e (fun i h => (∃ old, IsEnum h e it ((i : Nat) : Int) old) ∧ h.IsTupleIter it a i) where
  mem := by simp
  obj := fun i h st b hb => by
    obtain ⟨⟨old, he⟩, ⟨o, ho, hc, hd⟩⟩ := st
    have z : b = e ∨ b = it := by simpa using hb
    rcases z with rfl | rfl
    · exact ⟨_, he, fun v q => nomatch q⟩
    · exact ⟨o, ho, fun v q => by rw [hd] at q; cases q⟩
  keep := fun i h h' st k => let ⟨⟨old, he⟩, hi⟩ := st; ⟨⟨old, k e (by simp) _ he⟩, hi.at fun o q => k it (by simp) o q⟩
  item := by
    intro X hP hw hK hc i pins s σ H E I hf st hg
    subst hP hw hK
    obtain ⟨⟨old, he⟩, hit⟩ := st
    obtain ⟨xs, x, hq, hx⟩ := hg
    obtain ⟨us, rv, pl, hz⟩ := I.tuple hq
    obtain ⟨u, hu, ru⟩ := rv.get hx
    have hel : e < s.heap.objs.size := Heap.lt_size he
    have hil : it < s.heap.objs.size := by
      obtain ⟨_, q, _⟩ := hit
      exact Heap.lt_size q
    have hiu : i < us.toArray.size := by
      have := (List.getElem?_eq_some_iff.mp hu).1
      simpa using this
    refine wpAny_pyNext_enum_itemD (Draws.tuple (show X.A.in1.handled = none from by rw [show X.A.in1.handled = X.A.handled from rfl]; exact I.ok.hd hc) it a hia us.toArray) he ⟨hit, pl⟩ hiu hne (by simp [hne, hea]) fun v h' tk hPv ho hst' hT hsz hk => ?_
    have ev : v = u := by
      have q : us.toArray[i]? = some v := hPv
      have q2 : us.toArray[i]? = some u := by simpa using hu
      exact Option.some.inj (q.symm.trans q2)
    subst ev
    refine ⟨_, rfl, wpAny_letOwnedTupleGo_enum (s := { s with heap := h', toks := tk + 1 }) ho fun h2 he' sb => ?_⟩
    have hT2 : h2.get? s.heap.objs.size = some { cls := .type "tuple", data := .seq #[.int i tk, v] } := (sb.2 _ (Nat.ne_of_gt hel)).trans hT
    have new : ObjOk X.prog X.w (upd H s.heap.objs.size (.tup [.int (i : Nat), x])) h2 s.heap.objs.size (.tup [.int (i : Nat), x]) := ⟨by show 2 ≤ sizeLine; decide, [.int i tk, v], .cons ⟨_, rfl⟩ (.cons ru .nil), ⟨_, hT2, rfl, _, rfl⟩⟩
    have J := I.turnedNew (t' := tk + 1) (ch := [e, it]) (h' := h2) (fun b ob hb q => (sb.2 b (fun z => hb (by simp [z]))).trans (hk b ob (fun z => hb (by simp [z])) (fun z => hb (by simp [z])) q)) hf (Nat.le_refl _) new
    refine ⟨.ref s.heap.objs.size, _, J, rfl, ⟨_, x, rfl, I.hok.fresh (Nat.le_refl _), rfl, fun ys hy => by rw [I.tuple_inj hy hq]; exact hx⟩, ⟨⟨v, ?_⟩, hst'.1.at fun o q => (sb.2 it (Ne.symm hne)).trans q⟩, fun b hb => ?_⟩
    · rw [show ((i + 1 : Nat) : Int) = (i : Int) + 1 by omega]
      exact he'
    · have lt : b < s.heap.objs.size := by
        have z : b = e ∨ b = it := by simpa using hb
        rcases z with rfl | rfl
        · exact hel
        · exact hil
      rw [upd_ne (Nat.ne_of_lt lt)]
      exact (hf b hb).1
  done := by
    intro X hP hw hK hc i pins s σ H E I hf st hg
    subst hP hw hK
    obtain ⟨⟨old, he⟩, hit⟩ := st
    obtain ⟨xs, hq, hx⟩ := hg
    obtain ⟨us, rv, pl, hz⟩ := I.tuple hq
    obtain ⟨f0, f1, f2, f3, f4, f5⟩ := hf it (by simp)
    have hn : us.toArray[i]? = none := by
      have := rv.length
      simp
      omega
    have hh : X.A.in1.handled = none := by
      rw [show X.A.in1.handled = X.A.handled from rfl]
      exact I.ok.hd hc
    have D : Draws X.prog X.w X.A.in1 it [it, a] i (fun _ _ => False) (fun j h => j = i ∧ h.IsTupleIter it a i ∧ h.IsTuple a us.toArray) := {
      live := fun j h st => let ⟨o, ho, _⟩ := st.2.1; ⟨o, ho⟩
      frame := fun j h h' st k => ⟨st.1, st.2.1.at fun o q => k it (by simp) o q, st.2.2.at fun o q => k a (by simp) o q⟩
      item := fun j s Q E hj st _ => absurd (st.1 ▸ hj) (Nat.lt_irrefl _)
      done := fun s Q E st hE => wpAny_nextOf_tuple_end hh st.2.1 st.2.2 hn hE }
    exact wpAny_pyNext_enum_endD D he ⟨rfl, hit, pl⟩ fun h' eb => ⟨rfl, I.turned (t' := s.toks) (fun b o hb q => eb b o hb q) f0 f1 f3 f4 f5⟩
  self := fun A i s Q E st h => let ⟨⟨_, he⟩, _⟩ := st; wpAny_pyIter_enum he h
def iEnA (K : PySem.W.Frag) (ta : TA) : TI := fun σ H R => ta σ H fun vs G => ∃ a xs, vs = [.ref a] ∧ ((SqL K G a xs ∧ R (Ite K a) G) ∨ (SqT K G a xs ∧ R (IteT K a) G))
theorem pi_enA {X : Cx} {e : Expr} {ta : TA} {p pos tpos : Pos} {elts : List Expr} {kk : Nat} (hg : Gl X "enumerate") (hm : X.mg "enumerate" = none) (ha : PA X [e] ta) (hs : starEach [e] X.env = [(false, eval e X.env)] := by rfl) :
    PI X (.Tuple elts kk tpos) (.Call (.Name "enumerate" p) [e] [] pos) (iEnA X.K ta) := by
  refine ⟨fun pins s σ H R I h => Call_ (ld_blt I hg hm boot_enumerate (PyProof.Rows.callWith_type1 (thn (ha.run pos pins s σ H _ I h) fun us s1 ⟨vs, G, I1, r1, q1⟩ => ?_) hs rfl))⟩
  obtain ⟨a, xs, ex, q1⟩ := q1
  subst ex
  obtain ⟨u, rfl, ru⟩ := vals1 r1
  cases ru
  have fresh : ∀ b, b ∈ [s1.heap.objs.size + 1, s1.heap.objs.size] → FpOk X pins G b := fun b hb => by
    have z : b = s1.heap.objs.size + 1 ∨ b = s1.heap.objs.size := by simpa using hb
    have le : s1.heap.objs.size ≤ b := by
      rcases z with z | z
      · rw [z]
        exact Nat.le_succ _
      · rw [z]
        exact Nat.le_refl _
    exact I1.fpOk le (I1.hok.fresh le)
  rcases q1 with ⟨hq, q⟩ | ⟨hq, q⟩
  · obtain ⟨its, rv, pl, hz⟩ := I1.list hq
    refine call_enumerate_list pl.isList fun h' he hit hsz hk => wpAny_pyIter_enum he ?_
    exact ⟨s1.heap.objs.size + 1, [s1.heap.objs.size + 1, s1.heap.objs.size], _, _, G, rfl, I1.kept (t' := s1.toks) hk, turn_enum a (s1.heap.objs.size + 1) s1.heap.objs.size, ⟨⟨.none, he⟩, hit, Nat.succ_ne_self _⟩, fresh, q⟩
  · obtain ⟨its, rv, pl, hz⟩ := I1.tuple hq
    have lt : a < s1.heap.objs.size := by
      obtain ⟨o, ho, _⟩ := id pl
      exact Heap.lt_size ho
    refine enum_tuple pl fun h' he hit hT hk => wpAny_pyIter_enum he ?_
    exact ⟨s1.heap.objs.size + 1, [s1.heap.objs.size + 1, s1.heap.objs.size], _, _, G, rfl, I1.kept (t' := s1.toks) hk, turn_enumT (its := its) a (s1.heap.objs.size + 1) s1.heap.objs.size (Nat.succ_ne_self _) (Nat.ne_of_gt (Nat.lt_succ_of_lt lt)) (Nat.ne_of_lt lt), ⟨⟨.none, he⟩, hit⟩, fresh, q⟩
end Sg
namespace Wb
open PySem PySem.Spec PyProof.Rows L2 RZ Sg
abbrev sInit : Stmt := inClass (topS 15) 0
abbrev sPoints : Stmt := inClass (topS 15) 1
abbrev sArrows : Stmt := inClass (topS 15) 2
abbrev sMarks : Stmt := inClass (topS 15) 3
abbrev sRA : Stmt := topS 16
abbrev sRM : Stmt := topS 17
abbrev sGat : Stmt := topS 18
theorem seq_set {te : TE} {i : Nat} {rest : TS} {D : Ends} {σ : L2.St} {H : Hp} (h : te σ H fun v H' => rest D (σ.set i (some v)) H') : tSeq (tAsg te (gName i)) rest D σ H := h
theorem ret_of {te : TE} {D : Ends} {σ : L2.St} {H : Hp} (h : te σ H D.rt) : tRet te D σ H := h
/-! ### ties -/
def AK (n : Int) (k : List Key) : Prop := ∃ (c : Nat) (x y : Int), k = [.inr ⟨#[c]⟩, .inl x, .inl y] ∧ (c = 97 ∨ c = 98 ∨ c = 99) ∧ 0 ≤ x ∧ x < n ∧ 0 ≤ y ∧ y < n
def MK (n : Int) (k : List Key) : Prop := ∃ (c : Nat) (x : Int), k = [.inr ⟨#[c]⟩, .inl x] ∧ (c = 112 ∨ c = 113 ∨ c = 114) ∧ 0 ≤ x ∧ x < n
theorem AK.tie {n : Int} {k : List Key} (h : AK n k) (hn : n ≤ 128) : TieK 128 3 k := by
  obtain ⟨c, x, y, rfl, hc, h1, h2, h3, h4⟩ := h
  refine ⟨c, [x, y], rfl, rfl, fun m hm => ?_⟩
  simp only [List.mem_cons, List.not_mem_nil, or_false] at hm
  rcases hm with rfl | rfl | rfl <;> omega
theorem MK.tie {n : Int} {k : List Key} (h : MK n k) (hn : n ≤ 128) : TieK 128 2 k := by
  obtain ⟨c, x, rfl, hc, h1, h2⟩ := h
  refine ⟨c, [x], rfl, rfl, fun m hm => ?_⟩
  simp only [List.mem_cons, List.not_mem_nil, or_false] at hm
  rcases hm with rfl | rfl <;> omega
/-- a list or tuple of ties stands at l -/
def TL (K : PySem.W.Frag) (H : Hp) (l : Addr) (ks : List TK) : Prop := (SqL K H l (refs ks) ∨ SqT K H l (refs ks)) ∧ ∀ p ∈ ks, SqT K H p.1 (p.2.map kV)
theorem TL.same {K : PySem.W.Frag} {H H' : Hp} {l : Addr} {ks : List TK} (s : Same H H') (h : TL K H l ks) : TL K H' l ks :=
  ⟨h.1.imp (fun z => s.seq z) fun z => same_tup s z, fun p hp => same_tup s (h.2 p hp)⟩
section
variable {P : Program} {w : World} {K : PySem.W.Frag} {mg : Str → Option Value} {base : Heap}
theorem in_abc {c : Nat} (h : c = 97 ∨ c = 98 ∨ c = 99) : inV (.str ⟨#[c]⟩) (signsV "abc") = true := by
  rcases h with rfl | rfl | rfl <;> decide +kernel
theorem in_pqr {c : Nat} (h : c = 112 ∨ c = 113 ∨ c = 114) : inV (.str ⟨#[c]⟩) (signsV "pqr") = true := by
  rcases h with rfl | rfl | rfl <;> decide +kernel
def spRA (K : PySem.W.Frag) : Sp := fun vs H Q _ => ∃ n l ks, vs = [.int n, .ref l] ∧ TL K H l ks ∧ (∀ p ∈ ks, AK n p.2) ∧ ∀ H', Same H H' → Q .non H'
theorem scRA : FnScope ["points", "arrows", "colours", "at", "colour", "start", "end"] ["points", "arrows"] (defScope sRA) := ⟨rfl, rfl, rfl, by decide +kernel, rfl, by decide +kernel, by decide +kernel⟩
set_option maxHeartbeats 2000000 in
theorem ok_ra {f : Addr} {fd : FuncData} {tk : Tok} (F : Fun K "refuse_bad_arrows" "refuse_bad_arrows" sRA f fd) (mli : mg "list" = none) (me : mg "enumerate" = none) (gC : mg "COLOURS" = some (.str "abc" tk)) : FnOk P w K mg base CX0 1 f fd ["points", "arrows"] (spRA K) := by
  refine F.ok scRA (fun vs H Q E h => ?_) (fun cdv A outer s H vs Q E hr h => ?_)
  · obtain ⟨n, l, ks, rfl, _⟩ := h
    rfl
  · obtain ⟨n, l, ks, rfl, hT, hA, KQ⟩ := h
    refine ⟨_, pss_cons (ps_set (i := 2) scRA.nd rfl (.inl rfl) (pe_callTy (cr_listS rfl) (by rfl) mli boot_list (pa_cons (pe_glob (v := .str "abc") (by rfl) gC ⟨_, rfl⟩) pa_nil)))
      (pss_one (ps_for PassesOwn.never rfl (pi_enA (by rfl) me (pa_cons (pv 1) pa_nil)) (pg_tup rfl (pgs_cons (pg_name (i := 3) scRA.nd rfl (.inl rfl)) (pgs_cons (pg_tup rfl (pgs_cons (pg_name (i := 4) scRA.nd rfl (.inl rfl)) (pgs_cons (pg_name (i := 5) scRA.nd rfl (.inl rfl)) (pgs_cons (pg_name (i := 6) scRA.nd rfl (.inl rfl)) pgs_nil)))) pgs_nil)))
        (pss_one (ps_if (PW.pt (pw_or (pt_cmpR op_notIn_seq (pv 4) (pv 2) (by rfl)) (pw_or (pt_not (pt_chain op_le op_lt pe_int (pv 5) (pv 0))) (pw_or1 (pt_not (pt_chain op_le op_lt pe_int (pv 6) (pv 0))))))) (pss_one ps_never) pss_nil)))), ?_⟩
    refine seq_set ⟨_, rfl, by decide, fun p np => ?_⟩
    have s0 : Same H (upd H p (.lst (signsV "abc"))) := same_upd np
    have e0 : (upd H p (.lst (signsV "abc"))) p = some (.lst (signsV "abc")) := upd_same
    generalize upd H p (.lst (signsV "abc")) = H0 at s0 e0 ⊢
    rcases hT.1 with hS | hS
    · refine ⟨_, rfl, l, refs ks, rfl, .inl ⟨s0.seq hS, for_it (walk_enum (K := K) (a := l) (xs := refs ks)) (fun i σ J => ∃ y3 y4 y5 y6, σ = [some (.int n), some (.ref l), some (.ref p), y3, y4, y5, y6] ∧ Same H0 J) ⟨_, _, _, _, rfl, Same.refl _⟩ ?_ ?_ ?_⟩⟩
      · rintro i σ J _ ⟨y3, y4, y5, y6, rfl, sm⟩
        exact sm.seq (s0.seq hS)
      · rintro i v σ J J' hi ⟨y3, y4, y5, y6, rfl, sm⟩ ⟨T, a1, a2, rfl, nT, rfl, e1, e2⟩
        cases e1
        have hik : i < ks.length := by
          rw [List.length_map] at hi
          exact hi
        have gi : (refs ks)[i]? = some (.ref ks[i].1) := by
          rw [List.getElem?_map, List.getElem?_eq_getElem hik]
          rfl
        cases e2.symm.trans gi
        have sT : Same J (upd J T (.tup [.int (i : Nat), .ref ks[i].1])) := same_upd nT
        have hm : ks[i] ∈ ks := List.getElem_mem hik
        have sq := same_tup (sm.trans sT) (same_tup s0 (hT.2 _ hm))
        obtain ⟨c, x, y, ek, hc, h1, h2, h3, h4⟩ := hA _ hm
        rw [ek] at sq
        refine ⟨T, [.int (i : Nat), .ref ks[i].1], rfl, SqT.of upd_same, rfl, .int (i : Nat), [.ref ks[i].1], rfl, .ref ks[i].1, [], rfl, ⟨ks[i].1, [.str ⟨#[c]⟩, .int x, .int y], rfl, sq, rfl, .str ⟨#[c]⟩, [.int x, .int y], rfl, .int x, [.int y], rfl, .int y, [], rfl, rfl, rfl, ?_⟩⟩
        refine ⟨_, rfl, _, rfl, p, signsV "abc", rfl, .inl (SqL.of (sT _ _ (sm _ _ e0))), rfl, by decide +kernel, _, rfl, ?_⟩
        rw [in_abc hc]
        refine iteF ?_
        refine ⟨_, rfl, _, _, rfl, rfl, _, rfl, ?_⟩
        rw [decide_eq_true (show (0 : Int) ≤ x from h1)]
        refine iteT ⟨_, rfl, _, _, rfl, rfl, _, rfl, ?_⟩
        rw [decide_eq_true (show x < n from h2)]
        refine iteF ?_
        refine ⟨_, rfl, _, _, rfl, rfl, _, rfl, ?_⟩
        rw [decide_eq_true (show (0 : Int) ≤ y from h3)]
        refine iteT ⟨_, rfl, _, _, rfl, rfl, _, rfl, ?_⟩
        rw [decide_eq_true (show y < n from h4)]
        refine iteF ?_
        exact ⟨_, _, _, _, rfl, sm.trans sT⟩
      · rintro σ J ⟨y3, y4, y5, y6, rfl, sm⟩
        exact KQ J (s0.trans sm)
    · refine ⟨_, rfl, l, refs ks, rfl, .inr ⟨same_tup s0 hS, for_it (walk_enumT (K := K) (a := l) (xs := refs ks)) (fun i σ J => ∃ y3 y4 y5 y6, σ = [some (.int n), some (.ref l), some (.ref p), y3, y4, y5, y6] ∧ Same H0 J) ⟨_, _, _, _, rfl, Same.refl _⟩ ?_ ?_ ?_⟩⟩
      · rintro i σ J _ ⟨y3, y4, y5, y6, rfl, sm⟩
        exact same_tup sm (same_tup s0 hS)
      · rintro i v σ J J' hi ⟨y3, y4, y5, y6, rfl, sm⟩ ⟨T, a1, a2, rfl, nT, rfl, e1, e2⟩
        cases e1
        have hik : i < ks.length := by
          rw [List.length_map] at hi
          exact hi
        have gi : (refs ks)[i]? = some (.ref ks[i].1) := by
          rw [List.getElem?_map, List.getElem?_eq_getElem hik]
          rfl
        cases e2.symm.trans gi
        have sT : Same J (upd J T (.tup [.int (i : Nat), .ref ks[i].1])) := same_upd nT
        have hm : ks[i] ∈ ks := List.getElem_mem hik
        have sq := same_tup (sm.trans sT) (same_tup s0 (hT.2 _ hm))
        obtain ⟨c, x, y, ek, hc, h1, h2, h3, h4⟩ := hA _ hm
        rw [ek] at sq
        refine ⟨T, [.int (i : Nat), .ref ks[i].1], rfl, SqT.of upd_same, rfl, .int (i : Nat), [.ref ks[i].1], rfl, .ref ks[i].1, [], rfl, ⟨ks[i].1, [.str ⟨#[c]⟩, .int x, .int y], rfl, sq, rfl, .str ⟨#[c]⟩, [.int x, .int y], rfl, .int x, [.int y], rfl, .int y, [], rfl, rfl, rfl, ?_⟩⟩
        refine ⟨_, rfl, _, rfl, p, signsV "abc", rfl, .inl (SqL.of (sT _ _ (sm _ _ e0))), rfl, by decide +kernel, _, rfl, ?_⟩
        rw [in_abc hc]
        refine iteF ?_
        refine ⟨_, rfl, _, _, rfl, rfl, _, rfl, ?_⟩
        rw [decide_eq_true (show (0 : Int) ≤ x from h1)]
        refine iteT ⟨_, rfl, _, _, rfl, rfl, _, rfl, ?_⟩
        rw [decide_eq_true (show x < n from h2)]
        refine iteF ?_
        refine ⟨_, rfl, _, _, rfl, rfl, _, rfl, ?_⟩
        rw [decide_eq_true (show (0 : Int) ≤ y from h3)]
        refine iteT ⟨_, rfl, _, _, rfl, rfl, _, rfl, ?_⟩
        rw [decide_eq_true (show y < n from h4)]
        refine iteF ?_
        exact ⟨_, _, _, _, rfl, sm.trans sT⟩
      · rintro σ J ⟨y3, y4, y5, y6, rfl, sm⟩
        exact KQ J (s0.trans sm)
def spRM (K : PySem.W.Frag) : Sp := fun vs H Q _ => ∃ n l ks, vs = [.int n, .ref l] ∧ TL K H l ks ∧ (∀ p ∈ ks, MK n p.2) ∧ ∀ H', Same H H' → Q .non H'
theorem scRM : FnScope ["points", "marks", "signs", "at", "mark", "point"] ["points", "marks"] (defScope sRM) := ⟨rfl, rfl, rfl, by decide +kernel, rfl, by decide +kernel, by decide +kernel⟩
set_option maxHeartbeats 2000000 in
theorem ok_rm {f : Addr} {fd : FuncData} {tk : Tok} (F : Fun K "refuse_bad_marks" "refuse_bad_marks" sRM f fd) (mli : mg "list" = none) (me : mg "enumerate" = none) (gC : mg "MARKS" = some (.str "pqr" tk)) : FnOk P w K mg base CX0 1 f fd ["points", "marks"] (spRM K) := by
  refine F.ok scRM (fun vs H Q E h => ?_) (fun cdv A outer s H vs Q E hr h => ?_)
  · obtain ⟨n, l, ks, rfl, _⟩ := h
    rfl
  · obtain ⟨n, l, ks, rfl, hT, hA, KQ⟩ := h
    refine ⟨_, pss_cons (ps_set (i := 2) scRM.nd rfl (.inl rfl) (pe_callTy (cr_listS rfl) (by rfl) mli boot_list (pa_cons (pe_glob (v := .str "pqr") (by rfl) gC ⟨_, rfl⟩) pa_nil)))
      (pss_one (ps_for PassesOwn.never rfl (pi_enA (by rfl) me (pa_cons (pv 1) pa_nil)) (pg_tup rfl (pgs_cons (pg_name (i := 3) scRM.nd rfl (.inl rfl)) (pgs_cons (pg_tup rfl (pgs_cons (pg_name (i := 4) scRM.nd rfl (.inl rfl)) (pgs_cons (pg_name (i := 5) scRM.nd rfl (.inl rfl)) pgs_nil))) pgs_nil)))
        (pss_one (ps_if (PW.pt (pw_or (pt_cmpR op_notIn_seq (pv 4) (pv 2) (by rfl)) (pw_or1 (pt_not (pt_chain op_le op_lt pe_int (pv 5) (pv 0)))))) (pss_one ps_never) pss_nil)))), ?_⟩
    refine seq_set ⟨_, rfl, by decide, fun p np => ?_⟩
    have s0 : Same H (upd H p (.lst (signsV "pqr"))) := same_upd np
    have e0 : (upd H p (.lst (signsV "pqr"))) p = some (.lst (signsV "pqr")) := upd_same
    generalize upd H p (.lst (signsV "pqr")) = H0 at s0 e0 ⊢
    rcases hT.1 with hS | hS
    · refine ⟨_, rfl, l, refs ks, rfl, .inl ⟨s0.seq hS, for_it (walk_enum (K := K) (a := l) (xs := refs ks)) (fun i σ J => ∃ y3 y4 y5, σ = [some (.int n), some (.ref l), some (.ref p), y3, y4, y5] ∧ Same H0 J) ⟨_, _, _, rfl, Same.refl _⟩ ?_ ?_ ?_⟩⟩
      · rintro i σ J _ ⟨y3, y4, y5, rfl, sm⟩
        exact sm.seq (s0.seq hS)
      · rintro i v σ J J' hi ⟨y3, y4, y5, rfl, sm⟩ ⟨T, a1, a2, rfl, nT, rfl, e1, e2⟩
        cases e1
        have hik : i < ks.length := by
          rw [List.length_map] at hi
          exact hi
        have gi : (refs ks)[i]? = some (.ref ks[i].1) := by
          rw [List.getElem?_map, List.getElem?_eq_getElem hik]
          rfl
        cases e2.symm.trans gi
        have sT : Same J (upd J T (.tup [.int (i : Nat), .ref ks[i].1])) := same_upd nT
        have hm : ks[i] ∈ ks := List.getElem_mem hik
        have sq := same_tup (sm.trans sT) (same_tup s0 (hT.2 _ hm))
        obtain ⟨c, x, ek, hc, h1, h2⟩ := hA _ hm
        rw [ek] at sq
        refine ⟨T, [.int (i : Nat), .ref ks[i].1], rfl, SqT.of upd_same, rfl, .int (i : Nat), [.ref ks[i].1], rfl, .ref ks[i].1, [], rfl, ⟨ks[i].1, [.str ⟨#[c]⟩, .int x], rfl, sq, rfl, .str ⟨#[c]⟩, [.int x], rfl, .int x, [], rfl, rfl, rfl, ?_⟩⟩
        refine ⟨_, rfl, _, rfl, p, signsV "pqr", rfl, .inl (SqL.of (sT _ _ (sm _ _ e0))), rfl, by decide +kernel, _, rfl, ?_⟩
        rw [in_pqr hc]
        refine iteF ?_
        refine ⟨_, rfl, _, _, rfl, rfl, _, rfl, ?_⟩
        rw [decide_eq_true (show (0 : Int) ≤ x from h1)]
        refine iteT ⟨_, rfl, _, _, rfl, rfl, _, rfl, ?_⟩
        rw [decide_eq_true (show x < n from h2)]
        refine iteF ?_
        exact ⟨_, _, _, rfl, sm.trans sT⟩
      · rintro σ J ⟨y3, y4, y5, rfl, sm⟩
        exact KQ J (s0.trans sm)
    · refine ⟨_, rfl, l, refs ks, rfl, .inr ⟨same_tup s0 hS, for_it (walk_enumT (K := K) (a := l) (xs := refs ks)) (fun i σ J => ∃ y3 y4 y5, σ = [some (.int n), some (.ref l), some (.ref p), y3, y4, y5] ∧ Same H0 J) ⟨_, _, _, rfl, Same.refl _⟩ ?_ ?_ ?_⟩⟩
      · rintro i σ J _ ⟨y3, y4, y5, rfl, sm⟩
        exact same_tup sm (same_tup s0 hS)
      · rintro i v σ J J' hi ⟨y3, y4, y5, rfl, sm⟩ ⟨T, a1, a2, rfl, nT, rfl, e1, e2⟩
        cases e1
        have hik : i < ks.length := by
          rw [List.length_map] at hi
          exact hi
        have gi : (refs ks)[i]? = some (.ref ks[i].1) := by
          rw [List.getElem?_map, List.getElem?_eq_getElem hik]
          rfl
        cases e2.symm.trans gi
        have sT : Same J (upd J T (.tup [.int (i : Nat), .ref ks[i].1])) := same_upd nT
        have hm : ks[i] ∈ ks := List.getElem_mem hik
        have sq := same_tup (sm.trans sT) (same_tup s0 (hT.2 _ hm))
        obtain ⟨c, x, ek, hc, h1, h2⟩ := hA _ hm
        rw [ek] at sq
        refine ⟨T, [.int (i : Nat), .ref ks[i].1], rfl, SqT.of upd_same, rfl, .int (i : Nat), [.ref ks[i].1], rfl, .ref ks[i].1, [], rfl, ⟨ks[i].1, [.str ⟨#[c]⟩, .int x], rfl, sq, rfl, .str ⟨#[c]⟩, [.int x], rfl, .int x, [], rfl, rfl, rfl, ?_⟩⟩
        refine ⟨_, rfl, _, rfl, p, signsV "pqr", rfl, .inl (SqL.of (sT _ _ (sm _ _ e0))), rfl, by decide +kernel, _, rfl, ?_⟩
        rw [in_pqr hc]
        refine iteF ?_
        refine ⟨_, rfl, _, _, rfl, rfl, _, rfl, ?_⟩
        rw [decide_eq_true (show (0 : Int) ≤ x from h1)]
        refine iteT ⟨_, rfl, _, _, rfl, rfl, _, rfl, ?_⟩
        rw [decide_eq_true (show x < n from h2)]
        refine iteF ?_
        exact ⟨_, _, _, rfl, sm.trans sT⟩
      · rintro σ J ⟨y3, y4, y5, rfl, sm⟩
        exact KQ J (s0.trans sm)
end
end Wb
namespace Wb
open PySem PySem.Spec PyProof.Rows L2 RZ Sg
/-! ### the rows gathered by their first two things -/
def k2 (p : TK) : List Key := p.2.take 2
def lastV (p : TK) : V := kV (p.2.getD 2 (.inl 0))
def gat (rows : List TK) (k : List Key) : List V := (rows.filter fun p => decide (k2 p = k)).map lastV
theorem gat_add (rows : List TK) (p : TK) (k : List Key) : gat (rows ++ [p]) k = if k2 p = k then gat rows k ++ [lastV p] else gat rows k := by
  unfold gat
  rw [List.filter_append, List.map_append]
  by_cases h : k2 p = k
  · rw [if_pos h]
    simp [h]
  · rw [if_neg h]
    simp [h]
theorem gat_len (rows : List TK) (k : List Key) : (gat rows k).length ≤ rows.length := by
  unfold gat
  rw [List.length_map]
  exact List.length_filter_le ..
/-- the dict at d, new since H0, holds by each key the last things of its rows -/
structure GD (H0 H : Hp) (d : Addr) (rows : List TK) : Prop where
  nd : H0 d = none
  ex : ∃ kvs, H d = some (.dT kvs) ∧ kvs.length ≤ rows.length ∧ (∀ k, valV kvs k = none → gat rows k = []) ∧ (∀ k v, valV kvs k = some v → ∃ q, v = .ref q ∧ H0 q = none ∧ H q = some (.lst (gat rows k))) ∧
    ∀ k j q, valV kvs k = some (.ref q) → valV kvs j = some (.ref q) → k = j
theorem GD.new {H0 H : Hp} {d p : Addr} {o : HO} {rows : List TK} (g : GD H0 H d rows) (h : H p = none) : GD H0 (upd H p o) d rows := by
  obtain ⟨kvs, e, l, h1, h2, h3⟩ := g.ex
  refine ⟨g.nd, kvs, by rw [upd_ne (ne_of_none e h)]; exact e, l, h1, fun k v hv => ?_, h3⟩
  obtain ⟨q, eq, nq, hq⟩ := h2 k v hv
  exact ⟨q, eq, nq, by rw [upd_ne (ne_of_none hq h)]; exact hq⟩
section
variable {P : Program} {w : World} {K : PySem.W.Frag} {mg : Str → Option Value} {base : Heap}
def R3 (k : List Key) : Prop := ∃ (z : Str) (x y : Int), k = [.inr z, .inl x, .inl y]
theorem small9k {n : Nat} (h : n ≤ 9000) : n < sizeLine := by
  rw [sizeLine_eq]
  omega
def spGat (K : PySem.W.Frag) : Sp := fun vs H Q _ => ∃ l ks, vs = [.ref l] ∧ SqL K H l (refs ks) ∧ (∀ p ∈ ks, SqT K H p.1 (p.2.map kV) ∧ R3 p.2) ∧ ks.length ≤ 9000 ∧ ∀ d H', Same H H' → GD H H' d ks → Q (.ref d) H'
theorem scG : FnScope ["rows", "lasts", "colour", "point", "last"] ["rows"] (defScope sGat) := ⟨rfl, rfl, rfl, by decide +kernel, rfl, by decide +kernel, by decide +kernel⟩
set_option maxHeartbeats 2000000 in
theorem ok_gat {f : Addr} {fd : FuncData} (F : Fun K "gathered" "gathered" sGat f fd) : FnOk P w K mg base CX0 1 f fd ["rows"] (spGat K) := by
  refine F.ok scG (fun vs H Q E h => ?_) (fun cdv A outer s H vs Q E hr h => ?_)
  · obtain ⟨l, ks, rfl, _⟩ := h
    rfl
  · obtain ⟨l, ks, rfl, hS, hK, hlen, KQ⟩ := h
    have hu := hu_of hr
    refine ⟨_, pss_cons (ps_set (i := 1) scG.nd rfl (.inl rfl) pe_dnewT)
      (pss_cons (ps_for PassesOwn.never rfl (pi_list (pv 0)) (pg_tup rfl (pgs_cons (pg_name (i := 2) scG.nd rfl (.inl rfl)) (pgs_cons (pg_name (i := 3) scG.nd rfl (.inl rfl)) (pgs_cons (pg_name (i := 4) scG.nd rfl (.inl rfl)) pgs_nil))))
        (pss_one (ps_expr (pe_bm PySem.F.plainAttrs_list PySem.F.slot_list_append PySem.F.type_list_append mt_append (pe_setT hu (pv 1) (pe_tup (pa_cons (pv 2) (pa_cons (pv 3) pa_nil))) (pe_lst pa_nil) ⟨rfl, rfl, rfl, rfl⟩) (pa_cons (pv 4) pa_nil)))))
      (pss_one (ps_ret (pv 1)))), ?_⟩
    refine seq_set fun d nd => ?_
    have s0 : Same H (upd H d (.dT [])) := same_upd nd
    have g0 : GD H (upd H d (.dT [])) d [] := ⟨nd, [], upd_same, Nat.le_refl _, (fun _ _ => rfl), (fun k v hv => by rw [valV_nil] at hv; cases hv), (fun k j q hv => by rw [valV_nil] at hv; cases hv)⟩
    generalize upd H d (.dT []) = H0 at s0 g0 ⊢
    refine ⟨_, rfl, l, rfl, ⟨_, s0.seq hS⟩, for_list (xs := refs ks) (fun i σ J => ∃ y2 y3 y4, σ = [some (.ref l), some (.ref d), y2, y3, y4] ∧ Same H J ∧ GD H J d (ks.take i)) ⟨_, _, _, rfl, s0, g0⟩ ?_ ?_ ?_⟩
    · rintro i σ J _ ⟨y2, y3, y4, _, sm, _⟩
      exact sm.seq hS
    · rintro i v σ J hv ⟨y2, y3, y4, rfl, sm, g⟩
      have hik : i < ks.length := by
        have := (List.getElem?_eq_some_iff.mp hv).1
        rwa [List.length_map] at this
      have gi : (refs ks)[i]? = some (.ref ks[i].1) := by
        rw [List.getElem?_map, List.getElem?_eq_getElem hik]
        rfl
      cases hv.symm.trans gi
      have hm : ks[i] ∈ ks := List.getElem_mem hik
      obtain ⟨hq, z, x, y, ek⟩ := hK _ hm
      have sq := same_tup sm hq
      rw [ek] at sq
      have ht : ks.take (i + 1) = ks.take i ++ [ks[i]] := by
        rw [List.take_add_one, List.getElem?_eq_getElem hik]
        rfl
      have e2 : k2 ks[i] = [.inr z, .inl x] := by
        unfold k2
        rw [ek]
        rfl
      have el : lastV ks[i] = .int y := by
        unfold lastV
        rw [ek]
        rfl
      refine ⟨ks[i].1, [.str z, .int x, .int y], rfl, sq, rfl, .str z, [.int x, .int y], rfl, .int x, [.int y], rfl, .int y, [], rfl, rfl, ?_⟩
      obtain ⟨kv0, e0, _⟩ := g.ex
      refine ⟨_, rfl, d, kv0, rfl, e0, _, rfl, _, rfl, by show 2 ≤ sizeLine; decide, fun T nT => ?_⟩
      have g1 := g.new (o := .tup [.str z, .int x]) nT
      have s1 : Same H (upd J T (.tup [.str z, .int x])) := sm.trans (same_upd nT)
      have eT : (upd J T (.tup [.str z, .int x])) T = some (.tup (([.inr z, .inl x] : List Key).map kV)) := upd_same
      generalize upd J T (.tup [.str z, .int x]) = J1 at g1 s1 eT ⊢
      refine ⟨Nat.zero_le _, fun q' nq => ?_⟩
      have g2 := g1.new (o := .lst []) nq
      have s2 : Same H (upd J1 q' (.lst [])) := s1.trans (same_upd nq)
      have eT2 := same_upd (o := .lst []) nq _ _ eT
      have eq' : (upd J1 q' (.lst [])) q' = some (.lst []) := upd_same
      have hq0 : H q' = none := s1.free nq
      have fr : ∀ k q, (∃ kvs, (upd J1 q' (.lst [])) d = some (.dT kvs) ∧ valV kvs k = some (.ref q)) → q ≠ q' := by
        rintro k q ⟨kvs, ekv, hv2⟩ rfl
        obtain ⟨kv1, e1, _, _, h2, _⟩ := g1.ex
        have e1' := same_upd (o := .lst []) nq _ _ e1
        rw [ekv] at e1'
        cases e1'
        obtain ⟨q1, z1, _, hq1⟩ := h2 k _ hv2
        cases z1
        rw [nq] at hq1
        cases hq1
      generalize upd J1 q' (.lst []) = J2 at g2 s2 eT2 eq' fr ⊢
      obtain ⟨kvs, e1, hl, h1, h2, h3⟩ := g2.ex
      have ltn : (ks.take i).length ≤ 9000 := by
        rw [List.length_take]
        omega
      refine ⟨T, kvs, [.inr z, .inl x], rfl, e1, eT2, small9k (by omega), fun v hv2 => ?_, fun hn => ?_⟩
      · obtain ⟨q, rfl, nq0, hq2⟩ := h2 _ _ hv2
        refine ⟨.inl ⟨rfl, _, SqL.of hq2⟩, _, rfl, q, _, _, rfl, rfl, hq2, Nat.lt_of_le_of_lt (gat_len _ _) (small9k ltn), ?_⟩
        have dq : d ≠ q := ne_of e1 hq2 (fun z => nomatch z)
        refine ⟨_, _, _, rfl, fun c o ec => ?_, ⟨nd, kvs, by rw [upd_ne dq]; exact e1, by rw [ht, List.length_append]; exact Nat.le_succ_of_le hl, fun k hk => ?_, fun k u hk => ?_, h3⟩⟩
        · rw [upd_ne (ne_of_none ec nq0)]
          exact s2 _ _ ec
        · rw [ht, gat_add, e2, if_neg (fun z => by rw [← z, hv2] at hk; cases hk)]
          exact h1 k hk
        · obtain ⟨q1, rfl, n1, hq1⟩ := h2 k u hk
          refine ⟨q1, rfl, n1, ?_⟩
          rw [ht, gat_add, e2, el]
          by_cases hkk : ([.inr z, .inl x] : List Key) = k
          · subst hkk
            rw [hv2] at hk
            cases hk
            rw [upd_same, if_pos rfl]
          · rw [if_neg hkk, upd_ne (fun z => hkk (h3 _ _ q hv2 (by rw [← z]; exact hk)))]
            exact hq1
      · have g00 := h1 _ hn
        have dq : d ≠ q' := ne_of e1 eq' (fun z => nomatch z)
        have ed : (upd J2 d (.dT (putK kvs [.inr z, .inl x] (.ref q')))) q' = some (.lst []) := by
          rw [upd_ne dq.symm]
          exact eq'
        refine ⟨.inl ⟨rfl, _, SqL.of ed⟩, _, rfl, q', _, _, rfl, rfl, ed, by decide, ?_⟩
        refine ⟨_, _, _, rfl, fun c o ec => ?_, ⟨nd, putK kvs [.inr z, .inl x] (.ref q'), by rw [upd_ne dq, upd_same], ?_, fun k hk => ?_, fun k u hk => ?_, fun k j q hk hj => ?_⟩⟩
        · rw [upd_ne (ne_of_none ec hq0), upd_ne (ne_of_none ec nd)]
          exact s2 _ _ ec
        · rw [putK_new _ hn, ht, List.length_append, List.length_append]
          exact Nat.succ_le_succ hl
        · rw [valV_put] at hk
          by_cases hkk : k = ([.inr z, .inl x] : List Key)
          · rw [if_pos hkk] at hk
            cases hk
          · rw [if_neg hkk] at hk
            rw [ht, gat_add, e2, if_neg (fun z => hkk z.symm)]
            exact h1 k hk
        · rw [valV_put] at hk
          by_cases hkk : k = ([.inr z, .inl x] : List Key)
          · rw [if_pos hkk] at hk
            cases hk
            refine ⟨q', rfl, hq0, ?_⟩
            rw [upd_same, ht, gat_add, e2, if_pos hkk.symm, hkk, g00, el]
          · rw [if_neg hkk] at hk
            obtain ⟨q1, rfl, n1, hq1⟩ := h2 k u hk
            refine ⟨q1, rfl, n1, ?_⟩
            rw [upd_ne (fr k q1 ⟨kvs, e1, hk⟩), upd_ne (ne_of hq1 e1 (fun z => nomatch z)), ht, gat_add, e2, if_neg (fun z => hkk z.symm)]
            exact hq1
        · rw [valV_put] at hk hj
          by_cases hkk : k = ([.inr z, .inl x] : List Key)
          · rw [if_pos hkk] at hk
            cases hk
            by_cases hjj : j = ([.inr z, .inl x] : List Key)
            · rw [hkk, hjj]
            · rw [if_neg hjj] at hj
              exact absurd rfl (fr j _ ⟨kvs, e1, hj⟩)
          · rw [if_neg hkk] at hk
            by_cases hjj : j = ([.inr z, .inl x] : List Key)
            · rw [if_pos hjj] at hj
              cases hj
              exact absurd rfl (fr k _ ⟨kvs, e1, hk⟩)
            · rw [if_neg hjj] at hj
              exact h3 k j q hk hj
    · rintro σ J ⟨y2, y3, y4, rfl, sm, g⟩
      rw [List.length_map, List.take_length] at g
      exact ⟨_, rfl, KQ d J sm g⟩
end
end Wb
namespace Wb
open PySem PySem.Spec PyProof.Rows L2 RZ Sg
/-! ### a web as it stands -/
def flds (pl ar mr ow bw : Addr) : List (Str × V) := putF "backward" (.ref bw) (putF "onward" (.ref ow) (putF "mark_rows" (.ref mr) (putF "arrow_rows" (.ref ar) (putF "places" (.ref pl) []))))
theorem flds_eq (pl ar mr ow bw : Addr) : flds pl ar mr ow bw = ([("places", V.ref pl), ("arrow_rows", V.ref ar), ("mark_rows", V.ref mr), ("onward", V.ref ow), ("backward", V.ref bw)] : List (Str × V)) := by
  rfl
/-- a dict of lists by two things -/
def GX (H : Hp) (d : Addr) (f : List Key → List V) : Prop := ∃ kvs, H d = some (.dT kvs) ∧ (∀ k, valV kvs k = none → f k = []) ∧ ∀ k v, valV kvs k = some v → ∃ q, v = .ref q ∧ H q = some (.lst (f k))
theorem GX.same {H H' : Hp} {d : Addr} {f : List Key → List V} (s : Same H H') (g : GX H d f) : GX H' d f := by
  obtain ⟨kvs, e, h1, h2⟩ := g
  refine ⟨kvs, s _ _ e, h1, fun k v hv => ?_⟩
  obtain ⟨q, eq, hq⟩ := h2 k v hv
  exact ⟨q, eq, s _ _ hq⟩
theorem GD.gx {H0 H : Hp} {d : Addr} {rows : List TK} (g : GD H0 H d rows) : GX H d (gat rows) := by
  obtain ⟨kvs, e, _, h1, h2, _⟩ := g.ex
  refine ⟨kvs, e, h1, fun k v hv => ?_⟩
  obtain ⟨q, eq, _, hq⟩ := h2 k v hv
  exact ⟨q, eq, hq⟩
def swK (k : List Key) : List Key := [k.getD 0 (.inl 0), k.getD 2 (.inl 0), k.getD 1 (.inl 0)]
theorem Xt.put {b : Addr} {H H' : Hp} {o : HO} (x : Xt b H H') : Xt b H (upd H' b o) := fun c u hc e => by
  rw [upd_ne hc]
  exact x c u hc e
theorem GX.xt {x C dx d : Addr} {fs : List (Str × V)} {H H' : Hp} {f : List Key → List V} (s : Xt x H H') (hx : H x = some (.ins C dx fs)) (g : GX H d f) : GX H' d f := by
  obtain ⟨kvs, e, h1, h2⟩ := g
  refine ⟨kvs, s _ _ (ne_of e hx (fun z => nomatch z)) e, h1, fun k v hv => ?_⟩
  obtain ⟨q, eq, hq⟩ := h2 k v hv
  exact ⟨q, eq, s _ _ (ne_of hq hx (fun z => nomatch z)) hq⟩
theorem xt_tup' {K : PySem.W.Frag} {x p : Addr} {ys : List V} {H H' : Hp} {xs : List V} (s : Xt x H H') (hx : H x = some (.lst ys)) (h : SqT K H p xs) : SqT K H' p xs := by
  rcases h with (h | ⟨o, h⟩) | h
  · exact .inl (.inl (s _ _ (ne_of h hx (fun z => nomatch z)) h))
  · exact .inl (.inr ⟨o, s _ _ (ne_of h hx (fun z => nomatch z)) h⟩)
  · exact .inr h
def GXn (H0 H : Hp) (d : Addr) (f : List Key → List V) : Prop := H0 d = none ∧ ∃ kvs, H d = some (.dT kvs) ∧ (∀ k, valV kvs k = none → f k = []) ∧ ∀ k v, valV kvs k = some v → ∃ q, v = .ref q ∧ H0 q = none ∧ H q = some (.lst (f k))
theorem GXn.gx {H0 H : Hp} {d : Addr} {f : List Key → List V} (g : GXn H0 H d f) : GX H d f := by
  obtain ⟨_, kvs, e, h1, h2⟩ := g
  refine ⟨kvs, e, h1, fun k v hv => ?_⟩
  obtain ⟨q, eq, _, hq⟩ := h2 k v hv
  exact ⟨q, eq, hq⟩
theorem GXn.keep {H0 H H' : Hp} {d : Addr} {f : List Key → List V} (g : GXn H0 H d f) (k : ∀ c o, H0 c = none → H c = some o → H' c = some o) : GXn H0 H' d f := by
  obtain ⟨n0, kvs, e, h1, h2⟩ := g
  refine ⟨n0, kvs, k _ _ n0 e, h1, fun z v hv => ?_⟩
  obtain ⟨q, eq, nq, hq⟩ := h2 z v hv
  exact ⟨q, eq, nq, k _ _ nq hq⟩
theorem GD.gxn {x C dx d : Addr} {fs : List (Str × V)} {H J J' : Hp} {rows : List TK} (g : GD J J' d rows) (s : Xt x H J) (hx : J x = some (.ins C dx fs)) : GXn H J' d (gat rows) := by
  obtain ⟨kvs, e, _, h1, h2, _⟩ := g.ex
  refine ⟨s.free (ne_of_none hx g.nd).symm g.nd, kvs, e, h1, fun k v hv => ?_⟩
  obtain ⟨q, eq, nq, hq⟩ := h2 k v hv
  exact ⟨q, eq, s.free (ne_of_none hx nq).symm nq, hq⟩
structure WebAt (C : Addr) (H : Hp) (x : Addr) (n : Int) (As Ms : List TK) : Prop where
  ex : ∃ dx pl ar mr ow bw, H x = some (.ins C dx (flds pl ar mr ow bw)) ∧ H pl = some (.lst (rgV 0 n)) ∧ H ar = some (.lst (refs As)) ∧ H mr = some (.lst (refs Ms)) ∧ GX H ow (gat As) ∧ ∃ Bs : List TK, Bs.map (·.2) = As.map (fun p => swK p.2) ∧ GX H bw (gat Bs)
theorem WebAt.same {C : Addr} {H H' : Hp} {x : Addr} {n : Int} {As Ms : List TK} (s : Same H H') (w : WebAt C H x n As Ms) : WebAt C H' x n As Ms := by
  obtain ⟨dx, pl, ar, mr, ow, bw, h1, h2, h3, h4, h5, Bs, h6, h7⟩ := w.ex
  exact ⟨dx, pl, ar, mr, ow, bw, s _ _ h1, s _ _ h2, s _ _ h3, s _ _ h4, h5.same s, Bs, h6, h7.same s⟩
/-- a web all of whose parts are new since H0 -/
def WebOwn (C : Addr) (H0 H : Hp) (x : Addr) (n : Int) (As Ms : List TK) : Prop := ∀ H', (∀ c o, H0 c = none ∨ c = x → H c = some o → H' c = some o) → WebAt C H' x n As Ms
/-- L holds the keys of ks, each once, rising -/
structure Srt (ks L : List TK) : Prop where
  of : ∀ p ∈ L, p ∈ ks
  all : ∀ p ∈ ks, p.2 ∈ L.map (·.2)
  nd : (L.map (·.2)).Nodup
  ris : L.Pairwise fun p q => ordOf 128 p ≤ ordOf 128 q
structure WT (K : PySem.W.Frag) (mg : Str → Option Value) (C : Addr) : Prop where
  cl : Cls K C
  n1 : NoAttr K C "places"
  n2 : NoAttr K C "arrow_rows"
  n3 : NoAttr K C "mark_rows"
  n4 : NoAttr K C "onward"
  n5 : NoAttr K C "backward"
  list : mg "list" = none
  range : mg "range" = none
  set : mg "set" = none
  sorted : mg "sorted" = none
  most : ∃ t, mg "MOST_POINTS" = some (.int 81 t)
theorem xt_tup {K : PySem.W.Frag} {x C dx p : Addr} {fs : List (Str × V)} {H H' : Hp} {xs : List V} (s : Xt x H H') (hx : H x = some (.ins C dx fs)) (h : SqT K H p xs) : SqT K H' p xs := by
  rcases h with (h | ⟨o, h⟩) | h
  · exact .inl (.inl (s _ _ (ne_of h hx (fun z => nomatch z)) h))
  · exact .inl (.inr ⟨o, s _ _ (ne_of h hx (fun z => nomatch z)) h⟩)
  · exact .inr h
theorem xt_lst {K : PySem.W.Frag} {x C dx p : Addr} {fs : List (Str × V)} {H H' : Hp} {xs : List V} (s : Xt x H H') (hx : H x = some (.ins C dx fs)) (h : SqL K H p xs) : SqL K H' p xs := by
  rcases h with (h | ⟨o, h⟩) | h
  · exact .inl (.inl (s _ _ (ne_of h hx (fun z => nomatch z)) h))
  · exact .inl (.inr ⟨o, s _ _ (ne_of h hx (fun z => nomatch z)) h⟩)
  · exact .inr h
theorem TL.xt {K : PySem.W.Frag} {x C dx l : Addr} {fs : List (Str × V)} {H H' : Hp} {ks : List TK} (s : Xt x H H') (hx : H x = some (.ins C dx fs)) (h : TL K H l ks) : TL K H' l ks :=
  ⟨h.1.imp (fun z => xt_lst s hx z) fun z => xt_tup s hx z, fun p hp => xt_tup s hx (h.2 p hp)⟩
theorem seq_fld {K : PySem.W.Frag} {tv ta : TE} {f : Str} {rest : TS} {D : Ends} {σ : L2.St} {H : Hp} (h : tv σ H fun y H1 => ta σ H1 fun x H2 => ∃ a C dx fs, x = .ref a ∧ H2 a = some (.ins C dx fs) ∧ Cls K C ∧ NoAttr K C f ∧ fs.length < 1000 ∧ rest D σ (upd H2 a (.ins C dx (putF f y fs)))) : tSeq (sFld K ta tv f) rest D σ H := h
theorem seq_drop {te : TE} {rest : TS} {D : Ends} {σ : L2.St} {H : Hp} (h : te σ H fun _ H1 => rest D σ H1) : tSeq (tDrop te) rest D σ H := h
theorem seq_if {c : TT} {t u rest : TS} {D : Ends} {σ : L2.St} {H : Hp} (h : c σ H fun b H1 => if b = true then tSeq t rest D σ H1 else tSeq u rest D σ H1) : tSeq (tIfS c t u) rest D σ H := h
theorem seq_next {rest : TS} {D : Ends} {σ : L2.St} {H : Hp} (h : rest D σ H) : tSeq tNext rest D σ H := h
theorem Srt.len {ks L : List TK} (h : Srt ks L) : L.length ≤ ks.length := by
  have := List.Nodup.length_le_of_subset h.nd (l₂ := ks.map (·.2)) (fun z hz => by
    obtain ⟨p, hp, rfl⟩ := List.mem_map.mp hz
    exact List.mem_map.mpr ⟨p, h.of p hp, rfl⟩)
  rwa [List.length_map, List.length_map] at this
theorem read_ss {P : Program} {w : World} {K : PySem.W.Frag} {i d : Nat} {σ : L2.St} {H : Hp} {Q : VK} {l : Addr} {ks : List TK} (hv : σ[i]? = some (some (.ref l))) (hT : TL K H l ks) (h64 : ks.length < 4000) (tie : ∀ p ∈ ks, TieK 128 d p.2)
    (q : ∀ L p H', Srt ks L → Same H H' → H p = none → H' p = some (.lst (refs L)) → Q (.ref p) H') : tCB (rSortX K P w) (tCons (tCB (rSetX K P w) (tCons (tVar i) tNil)) tNil) σ H Q := by
  refine ⟨_, hv, l, ks, rfl, hT.1, hT.2, h64, fun a L na hL1 hL2 => ?_⟩
  have s1 : Same H (upd H a (SetX P w a L)) := same_upd na
  have e1 : (upd H a (SetX P w a L)) a = some (SetX P w a L) := upd_same
  generalize upd H a (SetX P w a L) = H1 at s1 e1 ⊢
  refine ⟨a, L, d, 128, rfl, .inl e1, fun p hp => same_tup s1 (hT.2 p (hL1 p hp)), fun p hp => tie p (hL1 p hp), fun L' p pm ris nd np => ?_⟩
  refine q L' p _ ⟨fun z hz => hL1 z (pm.mem_iff.mp hz), fun z hz => (pm.map _).mem_iff.mpr (hL2 z hz), nd e1, ris⟩ (s1.trans (same_upd np)) (s1.free np) upd_same
section
variable {P : Program} {w : World} {K : PySem.W.Frag} {mg : Str → Option Value} {base : Heap}
def spInit (K : PySem.W.Frag) (C : Addr) : Sp := fun vs H Q _ => ∃ x dx n la lm ka km, vs = [.ref x, .int n, .ref la, .ref lm] ∧ H x = some (.ins C dx []) ∧ 0 ≤ n ∧ n ≤ 81 ∧ TL K H la ka ∧ (∀ p ∈ ka, AK n p.2) ∧ ka.length < 4000 ∧ TL K H lm km ∧ (∀ p ∈ km, MK n p.2) ∧ km.length < 4000 ∧
  ∀ H' As Ms, WebOwn C H H' x n As Ms → Srt ka As → Srt km Ms → Xt x H H' → Q .non H'
abbrev NI : List Str := ["self", "points", "arrows", "marks", "colour", "start", "end"]
theorem scI : FnScope NI ["self", "points", "arrows", "marks"] (defScope sInit) := ⟨rfl, rfl, rfl, by decide +kernel, rfl, by decide +kernel, by decide +kernel⟩
theorem AK.r3 {n : Int} {k : List Key} (h : AK n k) : R3 k := by
  obtain ⟨c, x, y, e, _⟩ := h
  exact ⟨_, x, y, e⟩
set_option maxHeartbeats 4000000 in
theorem ok_init {f C fA fM fG : Addr} {fd dA dM dG : FuncData} {dvs : List V} {kws : List (Str × V)} (F : FunD K "__init__" "Web.__init__" (defArgs sInit) (defBody sInit) (defScope sInit) dvs kws f fd) (T : WT K mg C) (oA : Df P w K mg base 1 "refuse_bad_arrows" ["points", "arrows"] (spRA K) fA dA)
    (oM : Df P w K mg base 1 "refuse_bad_marks" ["points", "marks"] (spRM K) fM dM) (oG : Df P w K mg base 1 "gathered" ["rows"] (spGat K) fG dG) : FnOk P w K mg base CX0 2 f fd ["self", "points", "arrows", "marks"] (spInit K C) := by
  obtain ⟨tkM, gM⟩ := T.most
  refine F.ok scI (fun vs H Q E h => ?_) (fun cdv A outer s H vs Q E hr h => ?_)
  · obtain ⟨x, dx, n, la, lm, ka, km, rfl, _⟩ := h
    rfl
  · obtain ⟨x, dx, n, la, lm, ka, km, rfl, hx, n0, n1, ta, ga, la64, tm, gm, lm64, KQ⟩ := h
    have hu : (A.deeper (envOfC "Web.__init__" (defScope sInit) s.heap.objs.size f cdv)).units + 64 < cLine := by
      have := hr.un
      omega
    refine ⟨_, PSs.nox (pss_cons (ps_if (pt_not (pt_chain op_le op_le pe_int (pv 1) (pe_glob (v := .int 81) (by rfl) gM ⟨_, rfl⟩))) (pss_one ps_never) pss_nil)
      (pss_cons (ps_expr (pe_call oA.ok hr (by rfl) oA.gl oA.kp oA.bd .nil pass0 (pa_cons (pv 1) (pa_cons (pv 2) pa_nil))))
      (pss_cons (ps_expr (pe_call oM.ok hr (by rfl) oM.gl oM.kp oM.bd .nil pass0 (pa_cons (pv 1) (pa_cons (pv 3) pa_nil))))
      (pss_cons (ps_fld (pv 0) (pe_listRg rfl (by rfl) T.list (prg_1 (by rfl) T.range (pv 1))) rfl)
      (pss_cons (ps_fld (pv 0) (pe_callB (cr_sortX rfl) (by rfl) T.sorted (by decide +kernel) (pa_cons (pe_callTy (cr_setX rfl hu) (by rfl) T.set (by decide +kernel) (pa_cons (pv 2) pa_nil)) pa_nil)) rfl)
      (pss_cons (ps_fld (pv 0) (pe_callB (cr_sortX rfl) (by rfl) T.sorted (by decide +kernel) (pa_cons (pe_callTy (cr_setX rfl hu) (by rfl) T.set (by decide +kernel) (pa_cons (pv 3) pa_nil)) pa_nil)) rfl)
      (pss_cons (ps_fld (pv 0) (pe_call oG.ok hr (by rfl) oG.gl oG.kp oG.bd .nil pass0 (pa_cons (pe_fld (pv 0) rfl) pa_nil)) rfl)
      (pss_one (ps_fld (pv 0) (pe_call oG.ok hr (by rfl) oG.gl oG.kp oG.bd .nil pass0 (pa_cons
        (pe_lc (own := [("colour", 4), ("start", 5), ("end", 6)]) (g := gTup K 3 (gCons (gName 4) (gCons (gName 5) (gCons (gName 6) gNil)))) (tt := tYes) rfl scI.nd (pi_list (pe_fld (pv 0) rfl)) (blkOk_by (N := NI) (sc := defScope sInit) (by decide +kernel))
          (fun _ _ _ _ _ => pg_tup rfl (pgs_cons (pg_name (i := 4) scI.nd rfl (.inl rfl)) (pgs_cons (pg_name (i := 5) scI.nd rfl (.inl rfl)) (pgs_cons (pg_name (i := 6) scI.nd rfl (.inl rfl)) pgs_nil)))) (fun _ _ _ _ _ => pts_nil)
          (fun _ _ _ _ _ => pe_tup (pa_cons (pv 4) (pa_cons (pv 6) (pa_cons (pv 5) pa_nil)))))
        pa_nil)) rfl))))))))), ?_⟩
    refine seq_if ⟨_, rfl, _, _, rfl, rfl, _, rfl, ?_⟩
    rw [decide_eq_true (show (0 : Int) ≤ n from n0)]
    refine iteT ⟨_, _, rfl, rfl, _, rfl, ?_⟩
    rw [decide_eq_true (show n ≤ (81 : Int) from n1)]
    refine iteF ?_
    refine seq_next ?_
    refine seq_drop ⟨_, rfl, _, rfl, n, la, ka, rfl, ta, ga, fun H1 s1 => ?_⟩
    refine seq_drop ⟨_, rfl, _, rfl, n, lm, km, rfl, tm.same s1, gm, fun H2 s2 => ?_⟩
    have hx2 := s2 _ _ (s1 _ _ hx)
    have ta2 := (ta.same s1).same s2
    have tm2 := (tm.same s1).same s2
    have x2 : Xt x H H2 := Same.xt (s1.trans s2)
    generalize H2 = J at hx2 ta2 tm2 x2 ⊢
    clear s1 s2 ta tm
    refine seq_fld ⟨_, rfl, n, rfl, RgOk.of_le (Int.le_refl 0) (by omega) (by decide) n0, fun pl npl => ⟨_, rfl, x, C, dx, [], rfl, same_upd npl _ _ hx2, T.cl, T.n1, by decide, ?_⟩⟩
    have dpl : pl ≠ x := (ne_of_none hx2 npl).symm
    have fpl : H pl = none := x2.free dpl npl
    have x3 : Xt x H (upd (upd J pl (.lst (rgV 0 n))) x (.ins C dx (putF "places" (.ref pl) []))) := (x2.new npl).put
    have h3x : (upd (upd J pl (.lst (rgV 0 n))) x (.ins C dx (putF "places" (.ref pl) []))) x = some (.ins C dx (putF "places" (.ref pl) [])) := upd_same
    have h3p : (upd (upd J pl (.lst (rgV 0 n))) x (.ins C dx (putF "places" (.ref pl) []))) pl = some (.lst (rgV 0 n)) := by
      rw [upd_ne dpl]
      exact upd_same
    have ta3 : TL K (upd (upd J pl (.lst (rgV 0 n))) x (.ins C dx (putF "places" (.ref pl) []))) la ka := ta2.xt (((Xt.refl x J).new npl).put) hx2
    have tm3 : TL K (upd (upd J pl (.lst (rgV 0 n))) x (.ins C dx (putF "places" (.ref pl) []))) lm km := tm2.xt (((Xt.refl x J).new npl).put) hx2
    generalize upd (upd J pl (.lst (rgV 0 n))) x (.ins C dx (putF "places" (.ref pl) [])) = J3 at x3 h3x h3p ta3 tm3 ⊢
    refine seq_fld (read_ss rfl ta3 la64 (fun p hp => (ga p hp).tie (by omega)) fun As ar J4 sA s4 nar har => ⟨_, rfl, x, C, dx, _, rfl, s4 _ _ h3x, T.cl, T.n2, (show (1 : Nat) < 1000 by decide), ?_⟩)
    have dar : ar ≠ x := (ne_of_none h3x nar).symm
    have far : H ar = none := x3.free dar nar
    have y4 : Xt x J3 (upd J4 x (.ins C dx (putF "arrow_rows" (.ref ar) (putF "places" (.ref pl) [])))) := (Same.xt s4).put
    have h5x : (upd J4 x (.ins C dx (putF "arrow_rows" (.ref ar) (putF "places" (.ref pl) [])))) x = some (.ins C dx (putF "arrow_rows" (.ref ar) (putF "places" (.ref pl) []))) := upd_same
    have h5a : (upd J4 x (.ins C dx (putF "arrow_rows" (.ref ar) (putF "places" (.ref pl) [])))) ar = some (.lst (refs As)) := by
      rw [upd_ne dar]
      exact har
    generalize upd J4 x (.ins C dx (putF "arrow_rows" (.ref ar) (putF "places" (.ref pl) []))) = J5 at y4 h5x h5a ⊢
    have x5 := x3.trans y4
    have h5p := y4 _ _ dpl h3p
    have tm5 := tm3.xt y4 h3x
    have ta5 := ta3.xt y4 h3x
    clear ta3 tm3 x3 y4 s4 h3x h3p nar
    refine seq_fld (read_ss rfl tm5 lm64 (fun p hp => (gm p hp).tie (by omega)) fun Ms mr J6 sM s6 nmr hmr => ⟨_, rfl, x, C, dx, _, rfl, s6 _ _ h5x, T.cl, T.n3, (show (2 : Nat) < 1000 by decide), ?_⟩)
    have dmr : mr ≠ x := (ne_of_none h5x nmr).symm
    have fmr : H mr = none := x5.free dmr nmr
    have y6 : Xt x J5 (upd J6 x (.ins C dx (putF "mark_rows" (.ref mr) (putF "arrow_rows" (.ref ar) (putF "places" (.ref pl) []))))) := (Same.xt s6).put
    have h7x : (upd J6 x (.ins C dx (putF "mark_rows" (.ref mr) (putF "arrow_rows" (.ref ar) (putF "places" (.ref pl) []))))) x = some (.ins C dx (putF "mark_rows" (.ref mr) (putF "arrow_rows" (.ref ar) (putF "places" (.ref pl) [])))) := upd_same
    have h7m : (upd J6 x (.ins C dx (putF "mark_rows" (.ref mr) (putF "arrow_rows" (.ref ar) (putF "places" (.ref pl) []))))) mr = some (.lst (refs Ms)) := by
      rw [upd_ne dmr]
      exact hmr
    generalize upd J6 x (.ins C dx (putF "mark_rows" (.ref mr) (putF "arrow_rows" (.ref ar) (putF "places" (.ref pl) [])))) = J7 at y6 h7x h7m ⊢
    have x7 := x5.trans y6
    have h7p := y6 _ _ dpl h5p
    have h7a := y6 _ _ dar h5a
    have ta7 := ta5.xt y6 h5x
    clear tm5 ta5 x5 y6 s6 h5x h5p h5a nmr hmr
    have hAs : ∀ p ∈ As, SqT K J7 p.1 (p.2.map kV) ∧ R3 p.2 := fun p hp => ⟨ta7.2 p (sA.of p hp), (ga p (sA.of p hp)).r3⟩
    have lA : As.length < 4000 := Nat.lt_of_le_of_lt sA.len la64
    refine seq_fld ⟨_, rfl, x, C, dx, _, _, rfl, h7x, T.cl, T.n2, rfl, ar, As, rfl, SqL.of h7a, hAs, by omega, fun ow J8 s8 gd => ⟨_, rfl, x, C, dx, _, rfl, s8 _ _ h7x, T.cl, T.n4, (show (3 : Nat) < 1000 by decide), ?_⟩⟩
    have dow : ow ≠ x := (ne_of_none h7x gd.nd).symm
    have gx8 : GXn H J8 ow (gat As) := gd.gxn x7 h7x
    have nx : ∀ c, H c = none → c ≠ x := fun c hc => (ne_of_none hx hc).symm
    have y8 : Xt x J7 (upd J8 x (.ins C dx (putF "onward" (.ref ow) (putF "mark_rows" (.ref mr) (putF "arrow_rows" (.ref ar) (putF "places" (.ref pl) [])))))) := (Same.xt s8).put
    have h9x : (upd J8 x (.ins C dx (putF "onward" (.ref ow) (putF "mark_rows" (.ref mr) (putF "arrow_rows" (.ref ar) (putF "places" (.ref pl) [])))))) x = some (.ins C dx (putF "onward" (.ref ow) (putF "mark_rows" (.ref mr) (putF "arrow_rows" (.ref ar) (putF "places" (.ref pl) []))))) := upd_same
    have gx9 : GXn H (upd J8 x (.ins C dx (putF "onward" (.ref ow) (putF "mark_rows" (.ref mr) (putF "arrow_rows" (.ref ar) (putF "places" (.ref pl) [])))))) ow (gat As) := gx8.keep fun c o hc e => (Xt.refl x J8).put c o (nx c hc) e
    generalize upd J8 x (.ins C dx (putF "onward" (.ref ow) (putF "mark_rows" (.ref mr) (putF "arrow_rows" (.ref ar) (putF "places" (.ref pl) []))))) = J9 at y8 h9x gx9 ⊢
    have x9 := x7.trans y8
    have h9p := y8 _ _ dpl h7p
    have h9a := y8 _ _ dar h7a
    have h9m := y8 _ _ dmr h7m
    have hA9 : ∀ p ∈ As, SqT K J9 p.1 (p.2.map kV) ∧ R3 p.2 := fun p hp => ⟨xt_tup y8 h7x (hAs p hp).1, (hAs p hp).2⟩
    clear x7 y8 h7x h7p h7a h7m ta7 hAs gx8 gd s8
    refine ⟨_, rfl, x, C, dx, _, _, rfl, h9x, T.cl, T.n2, rfl, ar, rfl, ⟨_, SqL.of h9a⟩, fun D nD => ?_⟩
    refine lc_list (xs := refs As) (fun i J => ∃ Bs : List TK, J D = some (.lst (refs Bs)) ∧ Bs.map (·.2) = (As.take i).map (fun p => swK p.2) ∧ (∀ p ∈ Bs, SqT K J p.1 (p.2.map kV) ∧ R3 p.2) ∧ Same J9 J) ⟨[], upd_same, rfl, (fun p hp => nomatch hp), same_upd nD⟩ ?_ ?_ ?_
    · rintro i J _ ⟨Bs, _, _, _, sm⟩
      exact sm.seq (SqL.of h9a)
    · rintro i v J hv ⟨Bs, hB, eB, hK, sm⟩
      have hik : i < As.length := by
        have := (List.getElem?_eq_some_iff.mp hv).1
        rwa [List.length_map] at this
      have gi : (refs As)[i]? = some (.ref As[i].1) := by
        rw [List.getElem?_map, List.getElem?_eq_getElem hik]
        rfl
      cases hv.symm.trans gi
      have hm : As[i] ∈ As := List.getElem_mem hik
      obtain ⟨hq, z, a, b, ek⟩ := hA9 _ hm
      have sq := same_tup sm hq
      rw [ek] at sq
      have ht : As.take (i + 1) = As.take i ++ [As[i]] := by
        rw [List.take_add_one, List.getElem?_eq_getElem hik]
        rfl
      have lB : Bs.length ≤ 4000 := by
        have := congrArg List.length eB
        rw [List.length_map, List.length_map, List.length_take] at this
        omega
      refine ⟨As[i].1, [.str z, .int a, .int b], rfl, sq, rfl, .str z, [.int a, .int b], rfl, .int a, [.int b], rfl, .int b, [], rfl, rfl, rfl, ?_⟩
      unfold tYes
      refine Eq.mpr (if_pos rfl) ?_
      refine ⟨_, rfl, _, rfl, _, rfl, by show 3 ≤ sizeLine; decide, fun tp nt => ?_⟩
      have dD : D ≠ tp := ne_of_none hB nt
      have eD : (upd J tp (.tup [.str z, .int b, .int a])) D = some (.lst (refs Bs)) := by
        rw [upd_ne dD]
        exact hB
      have et : (upd J tp (.tup [.str z, .int b, .int a])) tp = some (.tup (([.inr z, .inl b, .inl a] : List Key).map kV)) := upd_same
      have st : Same J (upd J tp (.tup [.str z, .int b, .int a])) := same_upd nt
      generalize upd J tp (.tup [.str z, .int b, .int a]) = J' at eD et st ⊢
      refine ⟨refs Bs, eD, by rw [List.length_map]; exact Nat.lt_of_le_of_lt lB (by decide), Bs ++ [(tp, [.inr z, .inl b, .inl a])], ?_, ?_, ?_, ?_⟩
      · rw [upd_same]
        show _ = some (HO.lst (List.map _ (Bs ++ [_])))
        rw [List.map_append]
        rfl
      · rw [List.map_append, eB, ht, List.map_append]
        show _ ++ [_] = _ ++ [swK As[i].2]
        rw [ek]
        rfl
      · intro p hp
        rcases List.mem_append.mp hp with hp | hp
        · exact ⟨xt_tup' ((Same.xt st).put) hB (hK p hp).1, (hK p hp).2⟩
        · rw [List.mem_singleton] at hp
          subst hp
          refine ⟨SqT.of ?_, z, b, a, rfl⟩
          rw [upd_ne (ne_of et eD (fun z => nomatch z))]
          exact et
      · intro c o hc
        rw [upd_ne (ne_of_none hc nD)]
        exact st _ _ (sm _ _ hc)
    · rintro J ⟨Bs, hB, eB, hK, sm⟩
      rw [List.length_map, List.take_length] at eB
      have lB : Bs.length ≤ 4000 := by
        have := congrArg List.length eB
        rw [List.length_map, List.length_map] at this
        omega
      refine ⟨D, Bs, rfl, SqL.of hB, hK, by omega, fun bw J' s' gd => ⟨_, rfl, x, C, dx, _, rfl, s' _ _ (sm _ _ h9x), T.cl, T.n5, (show (4 : Nat) < 1000 by decide), ?_⟩⟩
      have z9 : Xt x J9 (upd J' x (.ins C dx (flds pl ar mr ow bw))) := (Same.xt (sm.trans s')).put
      have gw : GXn H (upd J' x (.ins C dx (flds pl ar mr ow bw))) ow (gat As) := gx9.keep fun c o hc e => z9 c o (nx c hc) e
      have gb : GXn H (upd J' x (.ins C dx (flds pl ar mr ow bw))) bw (gat Bs) := (gd.gxn (x9.trans (Same.xt sm)) (sm _ _ h9x)).keep fun c o hc e => (Xt.refl x J').put c o (nx c hc) e
      exact KQ _ As Ms (fun H'' kp => ⟨dx, pl, ar, mr, ow, bw, kp _ _ (.inr rfl) upd_same, kp _ _ (.inl fpl) (z9 _ _ dpl h9p), kp _ _ (.inl far) (z9 _ _ dar h9a), kp _ _ (.inl fmr) (z9 _ _ dmr h9m), (gw.keep fun c o hc e => kp c o (.inl hc) e).gx, Bs, eB, (gb.keep fun c o hc e => kp c o (.inl hc) e).gx⟩) sA sM (x9.trans z9)
end
end Wb
namespace Sg
open PySem PySem.Spec PyProof.Rows L2
/-! ### ties as data -/
def kD : Key → PyData
  | .inl i => .int i
  | .inr x => .str x
def tD (k : List Key) : PyData := .tuple (k.map kD)
theorem dp_k (K : PySem.W.Frag) (H : Hp) (k : Key) : Dp K H (kV k) (kD k) := by
  cases k with
  | inl i => exact .int i
  | inr x => exact .str x
theorem dp_ks (K : PySem.W.Frag) (H : Hp) : ∀ ks : List Key, DpAll K H (ks.map kV) (ks.map kD)
  | [] => .nil
  | k :: ks => .cons (dp_k K H k) (dp_ks K H ks)
theorem dp_tie {K : PySem.W.Frag} {H : Hp} {a : Addr} {k : List Key} (h : SqT K H a (k.map kV)) : Dp K H (.ref a) (tD k) := .tup h (dp_ks K H k)
theorem eqv_k (a b : Key) : PyData.eqv (kD a) (kD b) = decide (a = b) := by
  cases a with
  | inl i =>
    cases b with
    | inl j =>
      show PyData.eqv (.int i) (.int j) = _
      rw [PyData.eqv]
      by_cases h : i = j
      · subst h
        simp
      · rw [decide_eq_false (fun z => h (Sum.inl.inj z))]
        exact beq_false_of_ne h
    | inr y =>
      show PyData.eqv (.int i) (.str y) = _
      rw [PyData.eqv, decide_eq_false (fun z => nomatch z)]
  | inr x =>
    cases b with
    | inl j =>
      show PyData.eqv (.str x) (.int j) = _
      rw [PyData.eqv, decide_eq_false (fun z => nomatch z)]
    | inr y =>
      show PyData.eqv (.str x) (.str y) = _
      rw [PyData.eqv]
      by_cases h : x = y
      · subst h
        simp
      · rw [decide_eq_false (fun z => h (Sum.inr.inj z))]
        exact beq_false_of_ne h
theorem eqv_ks : ∀ k k' : List Key, PyData.eqvAll (k.map kD) (k'.map kD) = decide (k = k')
  | [], [] => by rw [List.map_nil, PyData.eqvAll, decide_eq_true rfl]
  | [], b :: bs => by rw [List.map_nil, List.map_cons, PyData.eqvAll, decide_eq_false (fun z => nomatch z)]
  | a :: as, [] => by rw [List.map_nil, List.map_cons, PyData.eqvAll, decide_eq_false (fun z => nomatch z)]
  | a :: as, b :: bs => by
    rw [List.map_cons, List.map_cons, PyData.eqvAll, eqv_k, eqv_ks as bs]
    by_cases h1 : a = b
    · by_cases h2 : as = bs
      · subst h1 h2
        simp
      · rw [decide_eq_false h2, Bool.and_false, decide_eq_false (fun z => h2 (List.cons.inj z).2)]
    · rw [decide_eq_false h1, Bool.false_and, decide_eq_false (fun z => h1 (List.cons.inj z).1)]
theorem eqv_tie (k k' : List Key) : PyData.eqv (tD k) (tD k') = decide (k = k') := by
  unfold tD
  rw [PyData.eqv]
  exact eqv_ks k k'
def okK : Key → Bool
  | .inl _ => true
  | .inr x => PyData.strOk x
theorem can_k {k : Key} (h : okK k = true) : PyData.canLay0 (kD k) = true := by
  cases k with
  | inl i =>
    show PyData.canLay0 (.int i) = true
    rw [PyData.canLay0]
  | inr x =>
    show PyData.canLay0 (.str x) = true
    rw [PyData.canLay0]
    exact h
theorem can_all : ∀ {ds : List PyData}, (∀ d ∈ ds, PyData.canLay0 d = true) → PyData.canLayAll0 ds = true
  | [], _ => by rw [PyData.canLayAll0]
  | d :: ds, h => by
    rw [PyData.canLayAll0, h d (List.mem_cons_self ..), can_all fun e he => h e (List.mem_cons_of_mem _ he)]
    rfl
theorem deep_all {n : Nat} : ∀ {ds : List PyData}, (∀ d ∈ ds, PyData.depth d ≤ n) → PyData.depthAll ds ≤ n
  | [], _ => by
    rw [PyData.depthAll]
    exact Nat.zero_le _
  | d :: ds, h => by
    rw [PyData.depthAll]
    exact Nat.max_le.mpr ⟨h d (List.mem_cons_self ..), deep_all fun e he => h e (List.mem_cons_of_mem _ he)⟩
theorem deep_k (k : Key) : PyData.depth (kD k) ≤ 0 := by
  cases k with
  | inl i =>
    show PyData.depth (.int i) ≤ 0
    simp [PyData.depth]
  | inr x =>
    show PyData.depth (.str x) ≤ 0
    simp [PyData.depth]
theorem can_tie {k : List Key} (h : ∀ z ∈ k, okK z = true) : PyData.canLay0 (tD k) = true := by
  unfold tD
  rw [PyData.canLay0]
  exact can_all fun d hd => by
    obtain ⟨z, hz, rfl⟩ := List.mem_map.mp hd
    exact can_k (h z hz)
theorem deep_tie (k : List Key) : PyData.depth (tD k) ≤ 1 := by
  unfold tD
  rw [PyData.depth]
  have := deep_all (n := 0) (ds := k.map kD) fun d hd => by
    obtain ⟨z, hz, rfl⟩ := List.mem_map.mp hd
    exact deep_k z
  omega
theorem shaped_tie {k : List Key} (h : ∀ z ∈ k, okK z = true) : SeqAt.shaped (tD k) = true := by
  unfold SeqAt.shaped
  have := deep_tie k
  rw [can_tie h, decide_eq_true (by omega)]
  rfl
theorem TieK.ok {d : Nat} {k : List Key} (t : TieK 128 d k) : ∀ z ∈ k, okK z = true := by
  obtain ⟨c, ns, rfl, _, b⟩ := t
  intro z hz
  rcases List.mem_cons.mp hz with rfl | hz
  · have : (c : Int) < 128 := (b.head).2
    show PyData.strOk ⟨#[c]⟩ = true
    unfold PyData.strOk
    simp
    omega
  · obtain ⟨n, _, rfl⟩ := List.mem_map.mp hz
    rfl
/-- a list of ties as data -/
def lD (ks : List TK) : PyData := .list (ks.map fun p => tD p.2)
theorem dp_refs {K : PySem.W.Frag} {H : Hp} : ∀ {ks : List TK}, (∀ p ∈ ks, SqT K H p.1 (p.2.map kV)) → DpAll K H (refs ks) (ks.map fun p => tD p.2)
  | [], _ => .nil
  | p :: ks, h => .cons (dp_tie (h p (List.mem_cons_self ..))) (dp_refs fun q hq => h q (List.mem_cons_of_mem _ hq))
theorem dp_list {K : PySem.W.Frag} {H : Hp} {a : Addr} {ks : List TK} (hl : SqL K H a (refs ks)) (h : ∀ p ∈ ks, SqT K H p.1 (p.2.map kV)) : Dp K H (.ref a) (lD ks) := .lst hl (dp_refs h)
theorem can_list {ks : List TK} (h : ∀ p ∈ ks, ∀ z ∈ p.2, okK z = true) : PyData.canLay0 (lD ks) = true := by
  unfold lD
  rw [PyData.canLay0]
  exact can_all fun d hd => by
    obtain ⟨z, hz, rfl⟩ := List.mem_map.mp hd
    exact can_tie (h z hz)
theorem deep_list (ks : List TK) : PyData.depth (lD ks) ≤ 2 := by
  unfold lD
  rw [PyData.depth]
  have := deep_all (n := 1) (ds := ks.map fun p => tD p.2) fun d hd => by
    obtain ⟨z, hz, rfl⟩ := List.mem_map.mp hd
    exact deep_tie z.2
  omega
theorem shaped_list {ks : List TK} (h : ∀ p ∈ ks, ∀ z ∈ p.2, okK z = true) : SeqAt.shaped (lD ks) = true := by
  unfold SeqAt.shaped
  have := deep_list ks
  rw [can_list h, decide_eq_true (by omega)]
  rfl
theorem eqv_nil (ks : List TK) : PyData.eqv (lD ks) (.list []) = decide (ks = []) := by
  unfold lD
  cases ks with
  | nil => simp [PyData.eqv, PyData.eqvAll]
  | cons p ks => simp [PyData.eqv, PyData.eqvAll]
/-! ### the order of ties tells them apart -/
theorem code_inj {B : Int} : ∀ ns ms : List Int, ns.length = ms.length → TS.Bd B ns → TS.Bd B ms → TS.code B ns = TS.code B ms → ns = ms
  | [], [], _, _, _, _ => rfl
  | [], _ :: _, h, _, _, _ => by cases h
  | _ :: _, [], h, _, _, _ => by cases h
  | x :: xs, y :: ys, hl, h1, h2, e => by
    have hl' : xs.length = ys.length := Nat.succ.inj hl
    rcases Int.lt_trichotomy x y with h | h | h
    · have := TS.code_lt hl' h1.tail h2.tail h
      omega
    · subst h
      simp only [TS.code, hl'] at e
      rw [code_inj xs ys hl' h1.tail h2.tail (by omega)]
    · have := TS.code_lt hl'.symm h2.tail h1.tail h
      omega
theorem ord_inj {B : Int} {d : Nat} {p q : TK} (t1 : TieK B d p.2) (t2 : TieK B d q.2) (e : ordOf B p = ordOf B q) : p.2 = q.2 := by
  obtain ⟨c, ns, e1, l1, b1⟩ := t1
  obtain ⟨c', ms, e2, l2, b2⟩ := t2
  unfold ordOf at e
  rw [e1, e2] at e
  have f1 : (Sum.inr ⟨#[c]⟩ :: ns.map Sum.inl : List Key).map numK = (c : Int) :: ns := by
    rw [List.map_cons, nums_inl]
    rfl
  have f2 : (Sum.inr ⟨#[c']⟩ :: ms.map Sum.inl : List Key).map numK = (c' : Int) :: ms := by
    rw [List.map_cons, nums_inl]
    rfl
  rw [f1, f2] at e
  have := code_inj _ _ (by rw [List.length_cons, List.length_cons]; omega) b1 b2 e
  injection this with h1 h2
  have h1' : c = c' := Int.ofNat.inj h1
  rw [e1, e2, h1', h2]
theorem rise_eq : ∀ l m : List Int, l.Pairwise (· < ·) → m.Pairwise (· < ·) → (∀ x, x ∈ l ↔ x ∈ m) → l = m
  | [], [], _, _, _ => rfl
  | [], y :: _, _, _, h => by
    have := (h y).mpr (List.mem_cons_self ..)
    cases this
  | x :: _, [], _, _, h => by
    have := (h x).mp (List.mem_cons_self ..)
    cases this
  | x :: l, y :: m, h1, h2, h => by
    have a1 := List.pairwise_cons.mp h1
    have a2 := List.pairwise_cons.mp h2
    have exy : x = y := by
      rcases List.mem_cons.mp ((h x).mp (List.mem_cons_self ..)) with e | e
      · exact e
      · rcases List.mem_cons.mp ((h y).mpr (List.mem_cons_self ..)) with e' | e'
        · exact e'.symm
        · have := a2.1 x e
          have := a1.1 y e'
          omega
    subst exy
    rw [rise_eq l m a1.2 a2.2 fun z => ⟨fun hz => ?_, fun hz => ?_⟩]
    · rcases List.mem_cons.mp ((h z).mp (List.mem_cons_of_mem _ hz)) with e | e
      · have := a1.1 z hz
        omega
      · exact e
    · rcases List.mem_cons.mp ((h z).mpr (List.mem_cons_of_mem _ hz)) with e | e
      · have := a2.1 z hz
        omega
      · exact e
theorem keys_eq {B : Int} {d : Nat} : ∀ {U V : List TK}, (∀ p ∈ U, TieK B d p.2) → (∀ p ∈ V, TieK B d p.2) → U.map (ordOf B) = V.map (ordOf B) → U.map (·.2) = V.map (·.2)
  | [], [], _, _, _ => rfl
  | [], _ :: _, _, _, h => by cases h
  | _ :: _, [], _, _, h => by cases h
  | p :: U, q :: V, h1, h2, h => by
    rw [List.map_cons, List.map_cons] at h
    injection h with ha hb
    rw [List.map_cons, List.map_cons, ord_inj (h1 p (List.mem_cons_self ..)) (h2 q (List.mem_cons_self ..)) ha, keys_eq (fun z hz => h1 z (List.mem_cons_of_mem _ hz)) (fun z hz => h2 z (List.mem_cons_of_mem _ hz)) hb]
/-- rising, each key once: strictly -/
theorem strict_of {B : Int} {d : Nat} : ∀ {U : List TK}, (∀ p ∈ U, TieK B d p.2) → (U.map (·.2)).Nodup → U.Pairwise (fun p q => ordOf B p ≤ ordOf B q) → (U.map (ordOf B)).Pairwise (· < ·)
  | [], _, _, _ => List.Pairwise.nil
  | p :: U, ht, nd, ris => by
    rw [List.map_cons] at nd ⊢
    have a1 := List.nodup_cons.mp nd
    have a2 := List.pairwise_cons.mp ris
    refine List.pairwise_cons.mpr ⟨fun x hx => ?_, strict_of (fun z hz => ht z (List.mem_cons_of_mem _ hz)) a1.2 a2.2⟩
    obtain ⟨q, hq, rfl⟩ := List.mem_map.mp hx
    have h1 := a2.1 q hq
    have h2 : ordOf B p ≠ ordOf B q := fun e => a1.1 (by
      rw [ord_inj (ht p (List.mem_cons_self ..)) (ht q (List.mem_cons_of_mem _ hq)) e]
      exact List.mem_map.mpr ⟨q, hq, rfl⟩)
    omega
theorem same_keys {B : Int} {d : Nat} {U V : List TK} (h1 : ∀ p ∈ U, TieK B d p.2) (h2 : ∀ p ∈ V, TieK B d p.2) (n1 : (U.map (·.2)).Nodup) (n2 : (V.map (·.2)).Nodup) (r1 : U.Pairwise fun p q => ordOf B p ≤ ordOf B q)
    (r2 : V.Pairwise fun p q => ordOf B p ≤ ordOf B q) (h : ∀ k, k ∈ U.map (·.2) ↔ k ∈ V.map (·.2)) : U.map (·.2) = V.map (·.2) := by
  refine keys_eq h1 h2 (rise_eq _ _ (strict_of h1 n1 r1) (strict_of h2 n2 r2) fun x => ?_)
  have go : ∀ {S T : List TK}, (∀ k, k ∈ S.map (·.2) → k ∈ T.map (·.2)) → x ∈ S.map (ordOf B) → x ∈ T.map (ordOf B) := fun {S T} g hx => by
    obtain ⟨p, hp, rfl⟩ := List.mem_map.mp hx
    obtain ⟨q, hq, e⟩ := List.mem_map.mp (g p.2 (List.mem_map.mpr ⟨p, hp, rfl⟩))
    refine List.mem_map.mpr ⟨q, hq, ?_⟩
    show TS.code B (q.2.map numK) = TS.code B (p.2.map numK)
    rw [show q.2 = p.2 from e]
  exact ⟨go fun k => (h k).mp, go fun k => (h k).mpr⟩
end Sg
namespace Wb
open PySem PySem.Spec PyProof.Rows L2 RZ Sg
abbrev sUnlike : Stmt := topS 29
abbrev sSign : Stmt := topS 31
section
variable {P : Program} {w : World} {K : PySem.W.Frag} {mg : Str → Option Value} {base : Heap}
/-! ### what a web tells -/
def spPts (C : Addr) : Sp := fun vs H Q _ => ∃ x n As Ms, vs = [.ref x] ∧ WebAt C H x n As Ms ∧ 0 ≤ n ∧ Q (.int n) H
theorem scPt : FnScope ["self"] ["self"] (defScope sPoints) := ⟨rfl, rfl, rfl, by decide +kernel, rfl, by decide +kernel, by decide +kernel⟩
theorem ok_pts {f C : Addr} {fd : FuncData} (F : Fun K "points" "Web.points" sPoints f fd) (T : WT K mg C) (ml : mg "len" = none) : FnOk P w K mg base CX0 1 f fd ["self"] (spPts C) := by
  refine F.ok scPt (fun vs H Q E h => ?_) (fun cdv A outer s H vs Q E hr h => ?_)
  · obtain ⟨x, n, As, Ms, rfl, _⟩ := h
    rfl
  · obtain ⟨x, n, As, Ms, rfl, W, n0, KQ⟩ := h
    refine ⟨_, pss_one (ps_ret (pe_callB call_len_seq (by rfl) ml PySem.boot_len (pa_cons (pe_fld (pv 0) rfl) pa_nil))), ?_⟩
    obtain ⟨dx, pl, ar, mr, ow, bw, h1, h2, _⟩ := W.ex
    refine ret_of ⟨_, rfl, x, C, dx, _, _, rfl, h1, T.cl, T.n1, rfl, pl, _, rfl, .inl (SqL.of h2), ?_⟩
    have : ((rgV 0 n).length : Int) = n := by
      unfold rgV
      rw [List.length_map, List.length_range]
      omega
    rw [this]
    exact KQ
def spArr (C : Addr) : Sp := fun vs H Q _ => ∃ x n As Ms, vs = [.ref x] ∧ WebAt C H x n As Ms ∧ ∀ p, H p = none → Q (.ref p) (upd H p (.lst (refs As)))
theorem scAr : FnScope ["self"] ["self"] (defScope sArrows) := ⟨rfl, rfl, rfl, by decide +kernel, rfl, by decide +kernel, by decide +kernel⟩
theorem ok_arr {f C : Addr} {fd : FuncData} (F : Fun K "arrows" "Web.arrows" sArrows f fd) (T : WT K mg C) : FnOk P w K mg base CX0 1 f fd ["self"] (spArr C) := by
  refine F.ok scAr (fun vs H Q E h => ?_) (fun cdv A outer s H vs Q E hr h => ?_)
  · obtain ⟨x, n, As, Ms, rfl, _⟩ := h
    rfl
  · obtain ⟨x, n, As, Ms, rfl, W, KQ⟩ := h
    refine ⟨_, pss_one (ps_ret (pe_callTy call_list_of (by rfl) T.list boot_list (pa_cons (pe_fld (pv 0) rfl) pa_nil))), ?_⟩
    obtain ⟨dx, pl, ar, mr, ow, bw, h1, _, h3, _⟩ := W.ex
    exact ret_of ⟨_, rfl, x, C, dx, _, _, rfl, h1, T.cl, T.n2, rfl, ar, _, rfl, .inl (SqL.of h3), fun p np => KQ p np⟩
def spMrk (C : Addr) : Sp := fun vs H Q _ => ∃ x n As Ms, vs = [.ref x] ∧ WebAt C H x n As Ms ∧ ∀ p, H p = none → Q (.ref p) (upd H p (.lst (refs Ms)))
theorem scMr : FnScope ["self"] ["self"] (defScope sMarks) := ⟨rfl, rfl, rfl, by decide +kernel, rfl, by decide +kernel, by decide +kernel⟩
theorem ok_mrk {f C : Addr} {fd : FuncData} (F : Fun K "marks" "Web.marks" sMarks f fd) (T : WT K mg C) : FnOk P w K mg base CX0 1 f fd ["self"] (spMrk C) := by
  refine F.ok scMr (fun vs H Q E h => ?_) (fun cdv A outer s H vs Q E hr h => ?_)
  · obtain ⟨x, n, As, Ms, rfl, _⟩ := h
    rfl
  · obtain ⟨x, n, As, Ms, rfl, W, KQ⟩ := h
    refine ⟨_, pss_one (ps_ret (pe_callTy call_list_of (by rfl) T.list boot_list (pa_cons (pe_fld (pv 0) rfl) pa_nil))), ?_⟩
    obtain ⟨dx, pl, ar, mr, ow, bw, h1, _, _, h4, _⟩ := W.ex
    exact ret_of ⟨_, rfl, x, C, dx, _, _, rfl, h1, T.cl, T.n3, rfl, mr, _, rfl, .inl (SqL.of h4), fun p np => KQ p np⟩
/-! ### things in any order -/
theorem bx_nr {H : Hp} {b q l : Addr} {ks : List TK} (B : Bx H b q) (h : H l = some (.lst (refs ks))) : l ≠ b := fun e => by
  subst e
  obtain ⟨ns, i, r, k, hb, _⟩ := B
  rw [h] at hb
  injection hb with hb
  injection hb with hb
  match ks, hb with
  | [], hb => cases hb
  | [_], hb => cases hb
  | _ :: _ :: _, hb => cases hb
/-! ### each once, rising -/
theorem Srt.strict {ks U : List TK} (h1 : ∀ p ∈ U, p ∈ ks) (h2 : ∀ p ∈ ks, p.2 ∈ U.map (·.2)) (h3 : (U.map (ordOf 128)).Pairwise (· < ·)) : Srt ks U := by
  refine ⟨h1, h2, ?_, ?_⟩
  · rw [List.pairwise_map] at h3
    unfold List.Nodup
    rw [List.pairwise_map]
    refine h3.imp fun {p q} h e => ?_
    have : ordOf 128 p = ordOf 128 q := by
      show TS.code 128 (p.2.map numK) = TS.code 128 (q.2.map numK)
      rw [e]
    omega
  · rw [List.pairwise_map] at h3
    exact h3.imp fun h => Int.le_of_lt h
def spUnl (K : PySem.W.Frag) : Sp := fun vs H Q _ => ∃ l ks d, vs = [.ref l] ∧ H l = some (.lst (refs ks)) ∧ (∀ p ∈ ks, SqT K H p.1 (p.2.map kV)) ∧ (∀ p ∈ ks, TieK 128 d p.2) ∧ ks.length < 4000 ∧ ∀ p U H', H p = none → H' p = some (.lst (refs U)) → Srt ks U → Same H H' → Q (.ref p) H'
theorem scU : FnScope ["_law_some", "_law_found", "_law_my_one"] ["_law_some"] (defScope sUnlike) := ⟨rfl, rfl, rfl, by decide +kernel, rfl, by decide +kernel, by decide +kernel⟩
set_option maxHeartbeats 2000000 in
theorem ok_unl {f : Addr} {fd : FuncData} (F : Fun K "_law_unlike" "_law_unlike" sUnlike f fd) (ms : mg "sorted" = none) : FnOk P w K mg base CX0 1 f fd ["_law_some"] (spUnl K) := by
  refine F.ok scU (fun vs H Q E h => ?_) (fun cdv A outer s H vs Q E hr h => ?_)
  · obtain ⟨l, ks, d, rfl, _⟩ := h
    rfl
  · obtain ⟨l, ks, d, rfl, hl, hq, ht, h64, KQ⟩ := h
    have hu : (A.deeper (envOfC "_law_unlike" (defScope sUnlike) s.heap.objs.size f cdv)).units + 64 < cLine := by
      have := hr.un
      omega
    refine ⟨_, pss_cons (ps_set (i := 1) scU.nd rfl (.inl rfl) (pe_lst pa_nil))
      (pss_cons (ps_for PassesOwn.never rfl (pi_list (pe_callB (cr_sortX rfl) (by rfl) ms (by decide +kernel) (pa_cons (pv 0) pa_nil))) (pg_name (i := 2) scU.nd rfl (.inl rfl))
        (pss_one (ps_if (PW.pt (pw_or (pt_cmpR (op_eqD hu) (pv 1) (pe_lst pa_nil) (by rfl)) (pw_or1 (pt_cmpR (op_neD hu) (pe_ix ix_list (pv 1) (pe_un un_neg pe_int) (fun _ _ => rfl)) (pv 2) (by rfl)))))
          (pss_one (ps_expr (pe_bm PySem.F.plainAttrs_list PySem.F.slot_list_append PySem.F.type_list_append mt_append (pv 1) (pa_cons (pv 2) pa_nil)))) pss_nil)))
      (pss_one (ps_ret (pv 1)))), ?_⟩
    refine seq_set ⟨Nat.zero_le _, fun D nD => ?_⟩
    have s0 : Same H (upd H D (.lst [])) := same_upd nD
    have e0 : (upd H D (.lst [])) D = some (.lst (refs [])) := upd_same
    generalize upd H D (.lst []) = H0 at s0 e0 ⊢
    refine ⟨_, rfl, l, ks, d, 128, rfl, .inr ⟨SqL.of (s0 _ _ hl), h64⟩, fun p hp => same_tup s0 (hq p hp), ht, fun L p pm ris _ np => ?_⟩
    have s1 : Same H0 (upd H0 p (.lst (refs L))) := same_upd np
    have e1 : (upd H0 p (.lst (refs L))) p = some (.lst (refs L)) := upd_same
    generalize upd H0 p (.lst (refs L)) = H1 at s1 e1 ⊢
    have s01 := s0.trans s1
    have qL : ∀ z ∈ L, SqT K H1 z.1 (z.2.map kV) := fun z hz => same_tup s01 (hq z (pm.mem_iff.mp hz))
    have tL : ∀ z ∈ L, TieK 128 d z.2 := fun z hz => ht z (pm.mem_iff.mp hz)
    refine ⟨p, rfl, ⟨_, SqL.of e1⟩, for_list (xs := refs L) (fun i σ J => ∃ y2 U, σ = [some (.ref l), some (.ref D), y2] ∧ J D = some (.lst (refs U)) ∧ (∀ z ∈ U, z ∈ L.take i) ∧ (∀ z ∈ L.take i, z.2 ∈ U.map (·.2)) ∧ (U.map (ordOf 128)).Pairwise (· < ·) ∧ (∀ c o, c ≠ D → H1 c = some o → J c = some o)) ⟨_, [], rfl, s1 _ _ e0, (fun z hz => nomatch hz), (fun z hz => nomatch hz), List.Pairwise.nil, fun c o _ h => h⟩ ?_ ?_ ?_⟩
    · rintro i σ J _ ⟨y2, U, _, _, _, _, _, sm⟩
      exact SqL.of (sm _ _ (ne_of_none e0 np).symm e1)
    · rintro i v σ J hv ⟨y2, U, rfl, hD, u1, u2, u3, sm⟩
      have hik : i < L.length := by
        have := (List.getElem?_eq_some_iff.mp hv).1
        rwa [List.length_map] at this
      have gi : (refs L)[i]? = some (.ref L[i].1) := by
        rw [List.getElem?_map, List.getElem?_eq_getElem hik]
        rfl
      cases hv.symm.trans gi
      have hti : L.take (i + 1) = L.take i ++ [L[i]] := by
        rw [List.take_add_one, List.getElem?_eq_getElem hik]
        rfl
      have tU : ∀ z ∈ U, TieK 128 d z.2 := fun z hz => tL z (List.mem_of_mem_take (u1 z hz))
      have tx : TieK 128 d L[i].2 := tL _ (List.getElem_mem hik)
      have le : ∀ z ∈ U, ordOf 128 z ≤ ordOf 128 L[i] := fun z hz => by
        have r2 := ris
        rw [← List.take_append_drop i L] at r2
        refine (List.pairwise_append.mp r2).2.2 z (u1 z hz) L[i] ?_
        rw [List.drop_eq_getElem_cons hik]
        exact List.mem_cons_self ..
      have lU : U.length < 9000 := by
        have h1 : (U.map (·.2)).Nodup := (Srt.strict (ks := L.take i) u1 u2 u3).nd
        have h2 := (Srt.strict (ks := L.take i) u1 u2 u3).len
        rw [List.length_take] at h2
        have h3 := pm.length_eq
        omega
      refine ⟨_, rfl, Nat.zero_le _, fun e ne => ?_⟩
      have dDe : D ≠ e := ne_of_none hD ne
      have eD : (upd J e (.lst [])) D = some (.lst (refs U)) := by
        rw [upd_ne dDe]
        exact hD
      have ee : (upd J e (.lst [])) e = some (.lst []) := upd_same
      have se : Same J (upd J e (.lst [])) := same_upd ne
      generalize upd J e (.lst []) = J1 at eD ee se ⊢
      have qx : ∀ z ∈ L, SqT K J1 z.1 (z.2.map kV) := fun z hz => same_tup se (xt_tup' (fun c o hc h => sm c o hc h) (s1 _ _ e0) (qL z hz))
      have qU : ∀ z ∈ U, SqT K J1 z.1 (z.2.map kV) := fun z hz => qx z (List.mem_of_mem_take (u1 z hz))
      have sm1 : ∀ c o, c ≠ D → H1 c = some o → J1 c = some o := fun c o hc h => se _ _ (sm c o hc h)
      have add : (∀ z ∈ U, ordOf 128 z < ordOf 128 L[i]) → ∃ y2 U', [some (V.ref l), some (V.ref D), some (V.ref L[i].1)] = [some (V.ref l), some (V.ref D), y2] ∧ (upd J1 D (.lst (refs U ++ [.ref L[i].1]))) D = some (.lst (refs U')) ∧ (∀ z ∈ U', z ∈ L.take (i + 1)) ∧ (∀ z ∈ L.take (i + 1), z.2 ∈ U'.map (·.2)) ∧ (U'.map (ordOf 128)).Pairwise (· < ·) ∧ ∀ c o, c ≠ D → H1 c = some o → (upd J1 D (.lst (refs U ++ [.ref L[i].1]))) c = some o := fun hlt => by
        refine ⟨_, U ++ [L[i]], rfl, ?_, ?_, ?_, ?_, ?_⟩
        · rw [upd_same]
          show _ = some (HO.lst (List.map _ (U ++ [_])))
          rw [List.map_append]
          rfl
        · intro z hz
          rw [hti]
          rcases List.mem_append.mp hz with hz | hz
          · exact List.mem_append_left _ (u1 z hz)
          · exact List.mem_append_right _ hz
        · intro z hz
          rw [hti] at hz
          rw [List.map_append]
          rcases List.mem_append.mp hz with hz | hz
          · exact List.mem_append_left _ (u2 z hz)
          · rw [List.mem_singleton] at hz
            subst hz
            exact List.mem_append_right _ (List.mem_cons_self ..)
        · rw [List.map_append]
          refine List.pairwise_append.mpr ⟨u3, List.pairwise_singleton .., fun a ha b hb => ?_⟩
          obtain ⟨z, hz, rfl⟩ := List.mem_map.mp ha
          rw [List.map_cons, List.map_nil, List.mem_singleton] at hb
          subst hb
          exact hlt z hz
        · intro c o hc h
          rw [upd_ne hc]
          exact sm1 c o hc h
      refine ⟨lD U, .list [], dp_list (SqL.of eD) qU, .lst (SqL.of ee) .nil, shaped_list (fun z hz => (tU z hz).ok), by decide +kernel, _, rfl, ?_⟩
      rw [eqv_nil]
      rcases List.eq_nil_or_concat U with hU | ⟨U0, u, hU⟩
      · rw [decide_eq_true hU]
        refine iteT (iteT ?_)
        refine ⟨_, rfl, .inl ⟨rfl, _, SqL.of eD⟩, _, rfl, D, _, _, rfl, rfl, eD, small9k (by rw [List.length_map]; omega), ?_⟩
        exact add (fun z hz => by rw [hU] at hz; cases hz)
      · rw [List.concat_eq_append] at hU
        have hne : U ≠ [] := by
          rw [hU]
          simp
        rw [decide_eq_false hne]
        refine iteF ?_
        have mu : u ∈ U := by
          rw [hU]
          exact List.mem_append_right _ (List.mem_cons_self ..)
        have la : atI (refs U) (-1) = some (.ref u.1) := by
          rw [hU]
          show atI (List.map _ (U0 ++ [u])) (-1) = _
          rw [List.map_append]
          exact atI_last _ _
        refine ⟨_, rfl, 1, rfl, D, _, _, _, rfl, rfl, SqL.of eD, la, _, rfl, tD u.2, tD L[i].2, dp_tie (qU u mu), dp_tie (qx _ (List.getElem_mem hik)), shaped_tie (tU u mu).ok, shaped_tie tx.ok, _, rfl, ?_⟩
        rw [eqv_tie]
        by_cases hk : u.2 = L[i].2
        · rw [decide_eq_true hk]
          refine iteF ?_
          refine ⟨_, U, rfl, eD, fun z hz => ?_, fun z hz => ?_, u3, sm1⟩
          · rw [hti]
            exact List.mem_append_left _ (u1 z hz)
          · rw [hti] at hz
            rcases List.mem_append.mp hz with hz | hz
            · exact u2 z hz
            · rw [List.mem_singleton] at hz
              subst hz
              exact List.mem_map.mpr ⟨u, mu, hk⟩
        · rw [decide_eq_false hk]
          refine iteT ?_
          refine ⟨_, rfl, .inl ⟨rfl, _, SqL.of eD⟩, _, rfl, D, _, _, rfl, rfl, eD, small9k (by rw [List.length_map]; omega), ?_⟩
          refine add fun z hz => ?_
          have hlu : ordOf 128 u < ordOf 128 L[i] := by
            have h1 := le u mu
            have h2 : ordOf 128 u ≠ ordOf 128 L[i] := fun e => hk (ord_inj (tU u mu) tx e)
            omega
          have u3' := u3
          rw [hU, List.map_append] at u3'
          have hz' := hz
          rw [hU] at hz'
          rcases List.mem_append.mp hz' with h | h
          · have := (List.pairwise_append.mp u3').2.2 (ordOf 128 z) (List.mem_map.mpr ⟨z, h, rfl⟩) (ordOf 128 u) (List.mem_cons_self ..)
            omega
          · rw [List.mem_singleton] at h
            subst h
            exact hlu
    · rintro σ J ⟨y2, U, rfl, hD, u1, u2, u3, sm⟩
      rw [List.length_map, List.take_length] at u1 u2
      refine ⟨_, rfl, KQ D U J nD hD (Srt.strict (fun z hz => pm.mem_iff.mp (u1 z hz)) (fun z hz => u2 z (pm.mem_iff.mpr hz)) u3) ?_⟩
      intro c o hc
      exact sm c o (ne_of_none hc nD) (s01 _ _ hc)
end
end Wb
namespace Wb
open PySem PySem.Spec PyProof.Rows L2 RZ Sg
abbrev sWeb : Stmt := topS 33
abbrev sTold : Stmt := topS 35
/-- a web told as a tuple -/
structure MW (K : PySem.W.Frag) (H : Hp) (p : Addr) (n : Int) (a m : Addr) (As Ms : List TK) : Prop where
  tp : H p = some (.tup [.int n, .ref a, .ref m])
  ha : H a = some (.lst (refs As))
  hm : H m = some (.lst (refs Ms))
  qa : ∀ z ∈ As, SqT K H z.1 (z.2.map kV)
  qm : ∀ z ∈ Ms, SqT K H z.1 (z.2.map kV)
  ka : ∀ z ∈ As, AK n z.2
  km : ∀ z ∈ Ms, MK n z.2
  na : (As.map (·.2)).Nodup
  nm : (Ms.map (·.2)).Nodup
  ra : As.Pairwise fun p q => ordOf 128 p ≤ ordOf 128 q
  rm : Ms.Pairwise fun p q => ordOf 128 p ≤ ordOf 128 q
  la : As.length ≤ 3900
  lm : Ms.length ≤ 3900
  n0 : 0 ≤ n
  n1 : n ≤ 30
theorem MW.same {K : PySem.W.Frag} {H H' : Hp} {p a m : Addr} {n : Int} {As Ms : List TK} (s : Same H H') (h : MW K H p n a m As Ms) : MW K H' p n a m As Ms :=
  { h with tp := s _ _ h.tp, ha := s _ _ h.ha, hm := s _ _ h.hm, qa := fun z hz => same_tup s (h.qa z hz), qm := fun z hz => same_tup s (h.qm z hz) }
theorem bx_at {H : Hp} {b q : Addr} (B : Bx H b q) : ∃ xs, H b = some (.lst xs) := by
  obtain ⟨ns, i, r, k, hb, _⟩ := B
  exact ⟨_, hb⟩
theorem bx_same {H H' : Hp} {b q : Addr} (s : Same H H') (B : Bx H b q) : Bx H' b q := by
  obtain ⟨ns, i, r, k, hb, hq, h⟩ := B
  exact ⟨ns, i, r, k, s _ _ hb, s _ _ hq, h⟩
theorem bx_tup {K : PySem.W.Frag} {b q p : Addr} {H H' : Hp} {xs : List V} (B : Bx H b q) (s : Xt b H H') (h : SqT K H p xs) : SqT K H' p xs := by
  obtain ⟨ys, hb⟩ := bx_at B
  exact xt_tup' s hb h
theorem MW.xt {K : PySem.W.Frag} {H H' : Hp} {b q p a m : Addr} {n : Int} {As Ms : List TK} (B : Bx H b q) (s : Xt b H H') (h : MW K H p n a m As Ms) : MW K H' p n a m As Ms := by
  obtain ⟨ys, hb⟩ := bx_at B
  exact { h with tp := s _ _ (ne_of h.tp hb (fun z => nomatch z)) h.tp, ha := s _ _ (bx_nr B h.ha) h.ha, hm := s _ _ (bx_nr B h.hm) h.hm, qa := fun z hz => xt_tup' s hb (h.qa z hz), qm := fun z hz => xt_tup' s hb (h.qm z hz) }
theorem hue_cp {c : Str} (h : c ∈ (["a", "b", "c"] : List Str)) : ∃ k : Nat, c = ⟨#[k]⟩ ∧ (k = 97 ∨ k = 98 ∨ k = 99) := by
  simp only [List.mem_cons, List.not_mem_nil, or_false] at h
  rcases h with rfl | rfl | rfl
  · exact ⟨97, by decide +kernel, .inl rfl⟩
  · exact ⟨98, by decide +kernel, .inr (.inl rfl)⟩
  · exact ⟨99, by decide +kernel, .inr (.inr rfl)⟩
theorem sign_cp {c : Str} (h : c ∈ (["p", "q", "r"] : List Str)) : ∃ k : Nat, c = ⟨#[k]⟩ ∧ (k = 112 ∨ k = 113 ∨ k = 114) := by
  simp only [List.mem_cons, List.not_mem_nil, or_false] at h
  rcases h with rfl | rfl | rfl
  · exact ⟨112, by decide +kernel, .inl rfl⟩
  · exact ⟨113, by decide +kernel, .inr (.inl rfl)⟩
  · exact ⟨114, by decide +kernel, .inr (.inr rfl)⟩
theorem seq_ret {te : TE} {rest : TS} {D : Ends} {σ : L2.St} {H : Hp} (h : te σ H D.rt) : tSeq (tRet te) rest D σ H := h
/-- a list of ties, being drawn -/
def CL (K : PySem.W.Frag) (b q : Addr) (G : List Key → Prop) (H1 : Hp) (D : Addr) (i : Nat) (J : Hp) : Prop := ∃ ks : List TK, J D = some (.lst (refs ks)) ∧ ks.length = i ∧ (∀ z ∈ ks, SqT K J z.1 (z.2.map kV) ∧ G z.2) ∧ Bx J b q ∧ Xt b H1 J
theorem CL.new {K : PySem.W.Frag} {b q D : Addr} {G : List Key → Prop} {H1 : Hp} (B : Bx H1 b q) (nD : H1 D = none) : CL K b q G H1 D 0 (upd H1 D (.lst [])) :=
  ⟨[], upd_same, rfl, (fun z hz => nomatch hz), B.new nD, (Xt.refl b H1).new nD⟩
theorem CL.add {K : PySem.W.Frag} {b q D p : Addr} {G : List Key → Prop} {H1 J J' : Hp} {i : Nat} {k : List Key} (B : Bx H1 b q) (nD : H1 D = none) (h : CL K b q G H1 D i J) (hi : i < 9000) (B' : Bx J' b q) (x : Xt b J J') (hp : J' p = some (.tup (k.map kV))) (g : G k) :
    ∃ acc, J' D = some (.lst acc) ∧ acc.length < sizeLine ∧ CL K b q G H1 D (i + 1) (upd J' D (.lst (acc ++ [.ref p]))) := by
  obtain ⟨ks, hD, hl, hk, BJ, xJ⟩ := h
  have nb : D ≠ b := B.ne nD
  have hD' := x _ _ nb hD
  refine ⟨refs ks, hD', by rw [List.length_map]; exact small9k (by omega), ks ++ [(p, k)], ?_, by rw [List.length_append, hl]; rfl, fun z hz => ?_, B'.upd nb (B.neq nD), fun c o hc ec => ?_⟩
  · rw [upd_same]
    show _ = some (HO.lst (List.map _ (ks ++ [_])))
    rw [List.map_append]
    rfl
  · rcases List.mem_append.mp hz with hz | hz
    · exact ⟨xt_tup' (Xt.refl D J').put hD' (bx_tup BJ x (hk z hz).1), (hk z hz).2⟩
    · rw [List.mem_singleton] at hz
      subst hz
      refine ⟨SqT.of ?_, g⟩
      rw [upd_ne (ne_of hp hD' (fun z => nomatch z))]
      exact hp
  · rw [upd_ne (ne_of_none ec nD)]
    exact x _ _ hc (xJ c o hc ec)
theorem CL.xt {K : PySem.W.Frag} {b q D : Addr} {G : List Key → Prop} {H1 J J' : Hp} {i : Nat} (h : CL K b q G H1 D i J) (nb : D ≠ b) (B' : Bx J' b q) (x : Xt b J J') : CL K b q G H1 D i J' := by
  obtain ⟨ks, hD, hl, hk, BJ, xJ⟩ := h
  exact ⟨ks, x _ _ nb hD, hl, fun z hz => ⟨bx_tup BJ x (hk z hz).1, (hk z hz).2⟩, B', xJ.trans x⟩
section
variable {P : Program} {w : World} {K : PySem.W.Frag} {mg : Str → Option Value} {base : Heap}
def spSign : Sp := fun vs H Q _ => ∃ b q, vs = [.ref b] ∧ Bx H b q ∧ ∀ (c : Str) H', c ∈ (["p", "q", "r"] : List Str) → Bx H' b q → Xt b H H' → Q (.str c) H'
theorem scSg : FnScope ["_law_box_here"] ["_law_box_here"] (defScope sSign) := ⟨rfl, rfl, rfl, by decide +kernel, rfl, by decide +kernel, by decide +kernel⟩
theorem ok_sign {f fO : Addr} {fd fdO : FuncData} (F : Fun K "_law_sign" "_law_sign" sSign f fd) (O : Df P w K mg base 2 "_law_one" ["_law_box_here", "_law_some"] (spOne K) fO fdO) : FnOk P w K mg base CX0 3 f fd ["_law_box_here"] spSign := by
  refine F.ok scSg (fun vs H Q E h => ?_) (fun cdv A outer s H vs Q E hr h => ?_)
  · obtain ⟨b, q, rfl, _⟩ := h
    rfl
  · obtain ⟨b, q, rfl, B, K1⟩ := h
    refine ⟨_, pss_one (ps_ret (pe_call O.ok hr (by rfl) O.gl O.kp O.bd .nil pass0 (pa_cons (pv 0) (pa_cons (pe_lst (pa_cons pe_str (pa_cons pe_str (pa_cons pe_str (pa_cons pe_str pa_nil))))) pa_nil)))), ?_⟩
    refine ⟨_, rfl, by show 4 ≤ sizeLine; decide, fun p np => ?_⟩
    refine .inl ⟨b, q, p, _, rfl, B.new np, SqL.of upd_same, B.ne np, by simp, by show 4 ≤ 1000; decide, fun v H' hv B' kp => ?_⟩
    obtain ⟨c, rfl, hc⟩ : ∃ c : Str, v = .str c ∧ c ∈ (["p", "q", "r"] : List Str) := by
      simp only [List.mem_cons, List.not_mem_nil, or_false] at hv
      rcases hv with rfl | rfl | rfl | rfl
      all_goals exact ⟨_, rfl, by simp⟩
    exact K1 c H' hc B' (((Xt.refl b H).new np).trans kp.xt)
/-! ### a web drawn -/
def spWeb (K : PySem.W.Frag) : Sp := fun vs H Q _ => ∃ b q lo hi, vs = [.ref b, .int lo, .int hi] ∧ Bx H b q ∧ 0 ≤ lo ∧ lo ≤ hi ∧ hi ≤ 30 ∧ ∀ p n a m As Ms H', lo ≤ n → n ≤ hi → MW K H' p n a m As Ms → Bx H' b q → Xt b H H' → Q (.ref p) H'
abbrev NW : List Str := ["_law_box_here", "_law_low", "_law_high", "_law_many", "_law_crowd", "_law_my_arrows", "_law_my_marks", "_law_k"]
theorem scW : FnScope NW ["_law_box_here", "_law_low", "_law_high"] (defScope sWeb) := ⟨rfl, rfl, rfl, by decide +kernel, rfl, by decide +kernel, by decide +kernel⟩
set_option maxHeartbeats 4000000 in
theorem ok_web {f fT fO fS fA fU : Addr} {fd dT dO dS dA dU : FuncData} (F : Fun K "_law_web" "_law_web" sWeb f fd) (mr : mg "range" = none) (T : Df P w K mg base 1 "_law_take" ["_law_box_here", "_law_many"] spTake fT dT)
    (O : Df P w K mg base 2 "_law_one" ["_law_box_here", "_law_some"] (spOne K) fO dO) (G : Df P w K mg base 3 "_law_sign" ["_law_box_here"] spSign fS dS) (R : Df P w K mg base 4 "_law_arrow" ["_law_box_here", "_law_many"] spArrow fA dA)
    (U : Df P w K mg base 1 "_law_unlike" ["_law_some"] (spUnl K) fU dU) : FnOk P w K mg base CX0 5 f fd ["_law_box_here", "_law_low", "_law_high"] (spWeb K) := by
  refine F.ok scW (fun vs H Q E h => ?_) (fun cdv A outer s H vs Q E hr h => ?_)
  · obtain ⟨b, q, lo, hi, rfl, _⟩ := h
    rfl
  · obtain ⟨b, q, lo, hi, rfl, B, l0, l1, l2, KQ⟩ := h
    refine ⟨_, pss_cons (ps_set (i := 3) scW.nd rfl (.inr rfl) (pe_op op_add (pv 1) (pe_call T.ok (hr.mono (by decide)) (by rfl) T.gl T.kp T.bd .nil pass0 (pa_cons (pv 0) (pa_cons (pe_op op_add (pe_op op_sub (pv 2) (pv 1)) pe_int) pa_nil)))))
      (pss_cons (ps_if (pt_cmpR op_eq (pv 3) pe_int (nomark _)) (pss_one (ps_ret (pe_tup (pa_cons pe_int (pa_cons (pe_lst pa_nil) (pa_cons (pe_lst pa_nil) pa_nil)))))) pss_nil)
      (pss_cons (ps_set (i := 4) scW.nd rfl (.inl rfl) (pe_call O.ok (hr.mono (by decide)) (by rfl) O.gl O.kp O.bd .nil pass0 (pa_cons (pv 0) (pa_cons (pe_lst (pa_cons (pv 3) (pa_cons (pv 3) (pa_cons (pe_op op_mul pe_int (pv 3)) (pa_cons pe_int pa_nil))))) pa_nil))))
      (pss_cons (ps_setLc (i := 5) (own := [("_law_k", 7)]) (g := gName 7) (tt := tYes) rfl scW.nd rfl rfl (sw_true rfl rfl rfl (by decide +kernel)) (pi_range1 (by rfl) mr (pa_cons (pe_call T.ok (hr.mono (by decide)) (by rfl) T.gl T.kp T.bd .nil pass0 (pa_cons (pv 0) (pa_cons (pe_op op_add (pv 4) pe_int) pa_nil))) pa_nil)) (blkOk_by (N := NW) (sc := defScope sWeb) (by decide +kernel))
        (fun _ _ _ _ _ => pg_name (i := 7) scW.nd rfl (Or.inl rfl)) (fun _ _ _ _ _ => pts_nil) (fun _ _ _ _ _ => pe_call R.ok hr (by rfl) R.gl R.kp R.bd .nil pass0 (pa_cons (pv 0) (pa_cons (pv 3) pa_nil))))
      (pss_cons (ps_setLc (i := 6) (own := [("_law_k", 7)]) (g := gName 7) (tt := tYes) rfl scW.nd rfl rfl (sw_true rfl rfl rfl (by decide +kernel)) (pi_range1 (by rfl) mr (pa_cons (pe_call O.ok (hr.mono (by decide)) (by rfl) O.gl O.kp O.bd .nil pass0 (pa_cons (pv 0) (pa_cons (pe_lst (pa_cons pe_int (pa_cons pe_int (pa_cons pe_int (pa_cons pe_int (pa_cons (pv 3) pa_nil)))))) pa_nil))) pa_nil)) (blkOk_by (N := NW) (sc := defScope sWeb) (by decide +kernel))
        (fun _ _ _ _ _ => pg_name (i := 7) scW.nd rfl (Or.inl rfl)) (fun _ _ _ _ _ => pts_nil) (fun _ _ _ _ _ => pe_tup (pa_cons (pe_call G.ok (hr.mono (by decide)) (by rfl) G.gl G.kp G.bd .nil pass0 (pa_cons (pv 0) pa_nil)) (pa_cons (pe_call T.ok (hr.mono (by decide)) (by rfl) T.gl T.kp T.bd .nil pass0 (pa_cons (pv 0) (pa_cons (pv 3) pa_nil))) pa_nil))))
      (pss_one (ps_ret (pe_tup (pa_cons (pv 3) (pa_cons (pe_call U.ok (hr.mono (by decide)) (by rfl) U.gl U.kp U.bd .nil pass0 (pa_cons (pv 5) pa_nil)) (pa_cons (pe_call U.ok (hr.mono (by decide)) (by rfl) U.gl U.kp U.bd .nil pass0 (pa_cons (pv 6) pa_nil)) pa_nil)))))))))), ?_⟩
    refine seq_set ⟨_, rfl, _, rfl, _, rfl, _, rfl, _, _, rfl, rfl, _, _, rfl, rfl, b, q, _, rfl, B, by omega, by omega, fun z H1 z0 z1 B1 k1 => ⟨lo, z, rfl, rfl, ?_⟩⟩
    have hn0 : 0 ≤ lo + z := by omega
    have hn1 : lo + z ≤ hi := by omega
    have hlo : lo ≤ lo + z := by omega
    dsimp only
    generalize lo + z = n at hn0 hn1 hlo ⊢
    have x1 := k1.xt
    clear k1 z0 z1
    refine seq_if ⟨_, rfl, rfl, _, rfl, ?_⟩
    by_cases hz : n = 0
    · subst hz
      rw [decide_eq_true rfl]
      refine iteT (seq_ret ?_)
      refine ⟨Nat.zero_le _, fun a na => ⟨Nat.zero_le _, fun m nm => ⟨by show 3 ≤ sizeLine; decide, fun p np => ?_⟩⟩⟩
      have s1 : Same (upd H1 a (.lst [])) (upd (upd H1 a (.lst [])) m (.lst [])) := same_upd nm
      have s2 := same_upd (o := .tup [.int 0, .ref a, .ref m]) np
      exact KQ p 0 a m [] [] _ hlo hn1 ⟨upd_same, s2 _ _ (s1 _ _ upd_same), s2 _ _ upd_same, (fun z hz => nomatch hz), (fun z hz => nomatch hz), (fun z hz => nomatch hz), (fun z hz => nomatch hz), List.Pairwise.nil, List.Pairwise.nil, List.Pairwise.nil, List.Pairwise.nil, Nat.zero_le _, Nat.zero_le _, by omega, by omega⟩ (((B1.new na).new nm).new np) (((x1.new na).new nm).new np)
    · rw [decide_eq_false (fun z => hz (V.int.inj z))]
      refine iteF (seq_next ?_)
      have np0 : 0 < n := by omega
      refine seq_set ⟨_, rfl, _, rfl, _, rfl, _, rfl, 2, n, rfl, rfl, .inl ⟨by decide, by decide⟩, by show 4 ≤ sizeLine; decide, fun p np => .inl ⟨b, q, p, _, rfl, B1.new np, SqL.of upd_same, B1.ne np, by simp, by show 4 ≤ 1000; decide, fun v H2 hv B2 k2 => ?_⟩⟩
      obtain ⟨cr, rfl, c0, c1⟩ : ∃ c : Int, v = .int c ∧ 0 ≤ c ∧ c ≤ 3900 := by
        simp only [List.mem_cons, List.not_mem_nil, or_false] at hv
        rcases hv with rfl | rfl | rfl | rfl
        all_goals exact ⟨_, rfl, by omega, by omega⟩
      have x2 := (x1.new (o := .lst [.int n, .int n, .int (2 * n), .int 3]) np).trans k2.xt
      clear k2 hv
      refine seq_set ⟨_, rfl, _, rfl, _, _, rfl, rfl, b, q, _, rfl, B2, by omega, by omega, fun t H3 t0 t1 B3 k3 => ⟨t, rfl, by omega, by omega, fun D nD => ?_⟩⟩
      have x3 := x2.trans k3.xt
      have Db : D ≠ b := B3.ne nD
      clear x2 k3 B2
      refine lc_range (lo := 0) (n := t.toNat) (CL K b q (AK n) H3 D) (CL.new B3 nD) ?_ ?_
      · rintro i J hi h
        refine ⟨rfl, ?_⟩
        dsimp only [tYes]
        refine iteT ?_
        have hh := h
        obtain ⟨_, _, _, _, BJ, _⟩ := hh
        refine ⟨_, rfl, _, rfl, b, q, n, rfl, BJ, np0, by omega, fun p c x y J' fp pb hp hc x0 x1 y0 y1 B' xt => ?_⟩
        obtain ⟨k, rfl, hk⟩ := hue_cp hc
        exact h.add B3 nD (by omega) B' xt (k := [.inr ⟨#[k]⟩, .inl x, .inl y]) hp ⟨k, x, y, rfl, hk, x0, x1, y0, y1⟩
      · intro J4 cA
        obtain ⟨_, _, _, _, B4, x4⟩ := id cA
        refine ⟨_, rfl, _, rfl, by show 5 ≤ sizeLine; decide, fun p np => .inl ⟨b, q, p, _, rfl, B4.new np, SqL.of upd_same, B4.ne np, by simp, by show 5 ≤ 1000; decide, fun v J5 hv B5 k5 => ?_⟩⟩
        obtain ⟨mm, rfl, m0, m1⟩ : ∃ c : Int, v = .int c ∧ 0 ≤ c ∧ c ≤ 3900 := by
          simp only [List.mem_cons, List.not_mem_nil, or_false] at hv
          rcases hv with rfl | rfl | rfl | rfl | rfl
          all_goals exact ⟨_, rfl, by omega, by omega⟩
        have cA5 := cA.xt Db B5 (((Xt.refl b J4).new np).trans k5.xt)
        clear cA k5 hv
        refine ⟨mm, rfl, by omega, by omega, fun D2 nD2 => ?_⟩
        have Db2 : D2 ≠ b := B5.ne nD2
        refine lc_range (lo := 0) (n := mm.toNat) (CL K b q (MK n) J5 D2) (CL.new B5 nD2) ?_ ?_
        · rintro i J hi h
          refine ⟨rfl, ?_⟩
          dsimp only [tYes]
          refine iteT ?_
          obtain ⟨_, _, _, _, BJ, _⟩ := id h
          refine ⟨_, rfl, b, q, rfl, BJ, fun c J1 hc B1 y1 => ?_⟩
          refine ⟨_, rfl, _, rfl, b, q, n, rfl, B1, np0, by omega, fun x J2 x0 x1 B2 k2 => ?_⟩
          refine ⟨by show 2 ≤ sizeLine; decide, fun p np => ?_⟩
          obtain ⟨k, rfl, hk⟩ := sign_cp hc
          exact h.add B5 nD2 (by omega) (B2.new np) ((y1.trans k2.xt).new np) (k := [.inr ⟨#[k]⟩, .inl x]) upd_same ⟨k, x, rfl, hk, x0, x1⟩
        · intro J6 cM
          obtain ⟨_, _, _, _, B6, x6⟩ := id cM
          obtain ⟨ka, hA, lA, gA, _, xA⟩ := cA5.xt Db B6 x6
          obtain ⟨km, hM, lM, gM, _, _⟩ := cM
          have tA : ∀ z ∈ ka, TieK 128 3 z.2 := fun z hz => (gA z hz).2.tie (by omega)
          have tM : ∀ z ∈ km, TieK 128 2 z.2 := fun z hz => (gM z hz).2.tie (by omega)
          refine ⟨_, rfl, _, rfl, D, ka, 3, rfl, hA, fun z hz => (gA z hz).1, tA, by omega, fun a As J7 na ha sA s7 => ?_⟩
          refine ⟨_, rfl, D2, km, 2, rfl, s7 _ _ hM, fun z hz => same_tup s7 (gM z hz).1, tM, by omega, fun m Ms J8 nm hm sM s8 => ?_⟩
          refine ⟨by show 3 ≤ sizeLine; decide, fun p np => ?_⟩
          have s9 := same_upd (o := .tup [.int n, .ref a, .ref m]) np
          have s69 := (s7.trans s8).trans s9
          refine KQ p n a m As Ms _ hlo hn1 ⟨upd_same, s9 _ _ (s8 _ _ ha), s9 _ _ hm, fun z hz => same_tup s69 (gA z (sA.of z hz)).1, fun z hz => same_tup s69 (gM z (sM.of z hz)).1, fun z hz => (gA z (sA.of z hz)).2, fun z hz => (gM z (sM.of z hz)).2, sA.nd, sM.nd, sA.ris, sM.ris, ?_, ?_, by omega, by omega⟩ (bx_same s69 B6) ((x3.trans xA).trans (Same.xt s69))
          · have := sA.len
            omega
          · have := sM.len
            omega
end
end Wb
namespace Wb
open PySem PySem.Spec PyProof.Rows L2 RZ Sg
/-- what callers hold of a method of no arguments -/
structure Mf (P : Program) (w : World) (K : PySem.W.Frag) (mg : Str → Option Value) (base : Heap) (k : Nat) (C : Addr) (m : Str) (sp : Sp) (f : Addr) (fd : FuncData) : Prop where
  ok : FnOk P w K mg base CX0 k f fd ["self"] sp
  mt : Meth K C m f
  bd : Binds K fd ["self"] []
section
variable {P : Program} {w : World} {K : PySem.W.Frag} {mg : Str → Option Value} {base : Heap}
def spTold (C : Addr) : Sp := fun vs H Q _ => ∃ x n As Ms, vs = [.ref x] ∧ WebAt C H x n As Ms ∧ 0 ≤ n ∧ ∀ p a m H', Same H H' → H' p = some (.tup [.int n, .ref a, .ref m]) → H' a = some (.lst (refs As)) → H' m = some (.lst (refs Ms)) → Q (.ref p) H'
theorem scTo : FnScope ["_law_web_here"] ["_law_web_here"] (defScope sTold) := ⟨rfl, rfl, rfl, by decide +kernel, rfl, by decide +kernel, by decide +kernel⟩
set_option maxHeartbeats 2000000 in
theorem ok_told {f C fP fA fM : Addr} {fd dP dA dM : FuncData} (F : Fun K "_law_told" "_law_told" sTold f fd) (c : Cls K C) (oP : Mf P w K mg base 1 C "points" (spPts C) fP dP) (oA : Mf P w K mg base 1 C "arrows" (spArr C) fA dA) (oM : Mf P w K mg base 1 C "marks" (spMrk C) fM dM) :
    FnOk P w K mg base CX0 2 f fd ["_law_web_here"] (spTold C) := by
  refine F.ok scTo (fun vs H Q E h => ?_) (fun cdv A outer s H vs Q E hr h => ?_)
  · obtain ⟨x, n, As, Ms, rfl, _⟩ := h
    rfl
  · obtain ⟨x, n, As, Ms, rfl, W, n0, KQ⟩ := h
    refine ⟨_, pss_one (ps_ret (pe_tup (pa_cons (pe_meth0 (pv 0) c oP.mt oP.ok hr oP.bd .nil pass0) (pa_cons (pe_meth0 (pv 0) c oA.mt oA.ok hr oA.bd .nil pass0) (pa_cons (pe_meth0 (pv 0) c oM.mt oM.ok hr oM.bd .nil pass0) pa_nil))))), ?_⟩
    have W0 := W
    obtain ⟨dx, pl, ar, mr, ow, bw, h1, _⟩ := W.ex
    refine ret_of ⟨_, rfl, x, dx, _, rfl, h1, rfl, x, n, As, Ms, rfl, W0, n0, ?_⟩
    refine ⟨_, rfl, x, dx, _, rfl, h1, rfl, x, n, As, Ms, rfl, W0, fun a na => ?_⟩
    have s1 := same_upd (o := .lst (refs As)) na
    refine ⟨_, rfl, x, dx, _, rfl, s1 _ _ h1, rfl, x, n, As, Ms, rfl, W0.same s1, fun m nm => ?_⟩
    have s2 := same_upd (o := .lst (refs Ms)) nm
    refine ⟨by show 3 ≤ sizeLine; decide, fun p np => ?_⟩
    have s3 := same_upd (o := .tup [.int n, .ref a, .ref m]) np
    exact KQ p a m _ ((s1.trans s2).trans s3) upd_same (s3 _ _ (s2 _ _ upd_same)) (s3 _ _ upd_same)
/-! ### making a web, with its names in any order -/
abbrev psI : List Str := ["self", "points", "arrows", "marks"]
def g1 {α : Type} (us _mv ws : List α) : List α := match us, ws with | [s, p], [m, a] => [s, p, a, m] | _, _ => []
def g2 {α : Type} (us _mv ws : List α) : List α := match us, ws with | [s, p], [a, m] => [s, p, a, m] | _, _ => []
def g3 {α : Type} (us mv ws : List α) : List α := match us, mv, ws with | [s], [a, m], [p] => [s, p, a, m] | _, _, _ => []
def g4 {α : Type} (us mv ws : List α) : List α := match us, mv, ws with | [s, p], [a], [m] => [s, p, a, m] | _, _, _ => []
theorem vals1 {vs : List V} {u : Value} {us : List Value} (h : Vals vs (u :: us)) : ∃ v vs', vs = v :: vs' ∧ RelV v u ∧ Vals vs' us := by
  cases h with
  | cons a b => exact ⟨_, _, rfl, a, b⟩
theorem vals0 {vs : List V} (h : Vals vs []) : vs = [] := by
  cases h
  rfl
theorem kb1 {f : Addr} {fd : FuncData} {kws : List (Str × V)} (F : FunD K "__init__" "Web.__init__" (defArgs sInit) (defBody sInit) (defScope sInit) [] kws f fd) (hk : kws ≠ []) : ∃ mv : List Value, KBn K fd psI 2 ["marks", "arrows"] (fun us ws => g1 us mv ws) (fun vs zs => g1 vs [] zs) := by
  refine F.kbinds0 2 ["marks", "arrows"] [] g1 hk (fun q h => nomatch h) ?_ ?_
  · intro vs mz zs us mv ws h1 h2 h3
    cases h1 with
    | nil => exact .nil
    | cons a0 ta0 =>
      cases ta0 with
      | nil => exact .nil
      | cons a1 ta1 =>
        cases ta1 with
        | cons _ _ => exact .nil
        | nil =>
          cases h3 with
          | nil => exact .nil
          | cons b0 tb0 =>
            cases tb0 with
            | nil => exact .nil
            | cons b1 tb1 =>
              cases tb1 with
              | cons _ _ => exact .nil
              | nil =>
                exact .cons a0 (.cons a1 (.cons b1 (.cons b0 .nil)))
  · intro D doc pm an cdv ct us mv ws l1 l2 l3
    match us, mv, ws, l1, l2, l3 with
    | [s, p], [], [m, a], _, _, _ => exact rfl
theorem kb2 {f : Addr} {fd : FuncData} {kws : List (Str × V)} (F : FunD K "__init__" "Web.__init__" (defArgs sInit) (defBody sInit) (defScope sInit) [] kws f fd) (hk : kws ≠ []) : ∃ mv : List Value, KBn K fd psI 2 ["arrows", "marks"] (fun us ws => g2 us mv ws) (fun vs zs => g2 vs [] zs) := by
  refine F.kbinds0 2 ["arrows", "marks"] [] g2 hk (fun q h => nomatch h) ?_ ?_
  · intro vs mz zs us mv ws h1 h2 h3
    cases h1 with
    | nil => exact .nil
    | cons a0 ta0 =>
      cases ta0 with
      | nil => exact .nil
      | cons a1 ta1 =>
        cases ta1 with
        | cons _ _ => exact .nil
        | nil =>
          cases h3 with
          | nil => exact .nil
          | cons b0 tb0 =>
            cases tb0 with
            | nil => exact .nil
            | cons b1 tb1 =>
              cases tb1 with
              | cons _ _ => exact .nil
              | nil =>
                exact .cons a0 (.cons a1 (.cons b0 (.cons b1 .nil)))
  · intro D doc pm an cdv ct us mv ws l1 l2 l3
    match us, mv, ws, l1, l2, l3 with
    | [s, p], [], [a, m], _, _, _ => exact rfl
theorem kb3 {f : Addr} {fd : FuncData} {ta tm : Addr} (F : FunD K "__init__" "Web.__init__" (defArgs sInit) (defBody sInit) (defScope sInit) [] [("arrows", .ref ta), ("marks", .ref tm)] f fd) : ∃ mv : List Value, KBn K fd psI 1 ["points"] (fun us ws => g3 us mv ws) (fun vs zs => g3 vs [.ref ta, .ref tm] zs) := by
  refine F.kbinds0 1 ["points"] [("arrows", .ref ta), ("marks", .ref tm)] g3 (fun z => nomatch z) (fun q h => h) ?_ ?_
  · intro vs mz zs us mv ws h1 h2 h3
    cases h1 with
    | nil => exact .nil
    | cons a0 ta0 =>
      cases ta0 with
      | cons _ _ => exact .nil
      | nil =>
        cases h2 with
        | nil => exact .nil
        | cons c0 tc0 =>
          cases tc0 with
          | nil => exact .nil
          | cons c1 tc1 =>
            cases tc1 with
            | cons _ _ => exact .nil
            | nil =>
              cases h3 with
              | nil => exact .nil
              | cons b0 tb0 =>
                cases tb0 with
                | cons _ _ => exact .nil
                | nil =>
                  exact .cons a0 (.cons b0 (.cons c0 (.cons c1 .nil)))
  · intro D doc pm an cdv ct us mv ws l1 l2 l3
    match us, mv, ws, l1, l2, l3 with
    | [s], [a, m], [p], _, _, _ => exact ⟨_, _, _, _, _, _, rfl, rfl, _, _, _, _, _, _, rfl, rfl, rfl⟩
theorem kb4 {f : Addr} {fd : FuncData} {ta tm : Addr} (F : FunD K "__init__" "Web.__init__" (defArgs sInit) (defBody sInit) (defScope sInit) [] [("arrows", .ref ta), ("marks", .ref tm)] f fd) : ∃ mv : List Value, KBn K fd psI 2 ["marks"] (fun us ws => g4 us mv ws) (fun vs zs => g4 vs [.ref ta] zs) := by
  refine F.kbinds0 2 ["marks"] [("arrows", .ref ta)] g4 (fun z => nomatch z) (fun q h => List.mem_cons.mpr (.inl (List.mem_singleton.mp h))) ?_ ?_
  · intro vs mz zs us mv ws h1 h2 h3
    cases h1 with
    | nil => exact .nil
    | cons a0 ta0 =>
      cases ta0 with
      | nil => exact .nil
      | cons a1 ta1 =>
        cases ta1 with
        | cons _ _ => exact .nil
        | nil =>
          cases h2 with
          | nil => exact .nil
          | cons c0 tc0 =>
            cases tc0 with
            | cons _ _ => exact .nil
            | nil =>
              cases h3 with
              | nil => exact .nil
              | cons b0 tb0 =>
                cases tb0 with
                | cons _ _ => exact .nil
                | nil =>
                  exact .cons a0 (.cons a1 (.cons c0 (.cons b0 .nil)))
  · intro D doc pm an cdv ct us mv ws l1 l2 l3
    match us, mv, ws, l1, l2, l3 with
    | [s, p], [a], [m], _, _, _ => exact ⟨_, _, _, _, _, _, rfl, rfl, rfl⟩
end
end Wb
namespace Wb
open PySem PySem.Spec PyProof.Rows L2 RZ Sg
theorem cut_to {xs : List V} (k : Nat) : cutV xs none (some (k : Int)) = xs.take k := by
  unfold cutV
  rw [HT.sIx_none, show HT.sIx xs.length xs.length (some ((k : Nat) : Int)) = min k xs.length from HT.sIx_nat xs.length xs.length k, List.drop_zero, Nat.sub_zero]
  by_cases h : k ≤ xs.length
  · rw [Nat.min_eq_left h]
  · rw [Nat.min_eq_right (by omega), List.take_length, List.take_of_length_le (by omega)]
theorem sv_keys {K : PySem.W.Frag} {H : Hp} : ∀ k : List Key, Paired (Sv K H 0) (k.map kV) (k.map kV)
  | [] => .nil
  | k :: ks => .cons (by cases k <;> exact ⟨rfl, rfl⟩) (sv_keys ks)
theorem sv_tie {K : PySem.W.Frag} {H : Hp} {a b : Addr} {k : List Key} (hk : k.length ≤ 1000) (h1 : SqT K H a (k.map kV)) (h2 : SqT K H b (k.map kV)) : Sv K H 1 (.ref a) (.ref b) :=
  .inr ⟨a, b, _, _, rfl, rfl, .inr ⟨h1, h2⟩, by rw [List.length_map]; omega, sv_keys k⟩
theorem sv_refs {K : PySem.W.Frag} {H : Hp} : ∀ {U V : List TK}, U.map (·.2) = V.map (·.2) → (∀ z ∈ U, SqT K H z.1 (z.2.map kV)) → (∀ z ∈ V, SqT K H z.1 (z.2.map kV)) → (∀ z ∈ V, z.2.length ≤ 1000) → Paired (Sv K H 1) (refs U) (refs V)
  | [], [], _, _, _, _ => .nil
  | [], _ :: _, h, _, _, _ => by cases h
  | _ :: _, [], h, _, _, _ => by cases h
  | p :: U, q :: V, h, h1, h2, h3 => by
    rw [List.map_cons, List.map_cons] at h
    injection h with ha hb
    refine .cons (sv_tie (k := q.2) (h3 q (List.mem_cons_self ..)) ?_ (h2 q (List.mem_cons_self ..))) (sv_refs hb (fun z hz => h1 z (List.mem_cons_of_mem _ hz)) (fun z hz => h2 z (List.mem_cons_of_mem _ hz)) fun z hz => h3 z (List.mem_cons_of_mem _ hz))
    have := h1 p (List.mem_cons_self ..)
    rw [show p.2 = q.2 from ha] at this
    exact this
theorem srt_eq {d : Nat} {ks U V : List TK} (s : Srt ks U) (h : ∀ k, k ∈ ks.map (·.2) ↔ k ∈ V.map (·.2)) (t1 : ∀ p ∈ ks, TieK 128 d p.2) (t2 : ∀ p ∈ V, TieK 128 d p.2) (nd : (V.map (·.2)).Nodup) (ris : V.Pairwise fun p q => ordOf 128 p ≤ ordOf 128 q) : U.map (·.2) = V.map (·.2) := by
  refine same_keys (fun p hp => t1 p (s.of p hp)) t2 s.nd nd s.ris ris fun k => ⟨fun hk => ?_, fun hk => ?_⟩
  · obtain ⟨p, hp, rfl⟩ := List.mem_map.mp hk
    exact (h _).mp (List.mem_map.mpr ⟨p, s.of p hp, rfl⟩)
  · obtain ⟨p, hp, e⟩ := List.mem_map.mp ((h k).mpr hk)
    rw [← e]
    exact s.all p hp
/-- the told tuple is the tuple drawn -/
theorem sv_told {K : PySem.W.Frag} {H : Hp} {tp ta tm p a m : Addr} {n : Int} {As Ms Us Vs : List TK} (h1 : H tp = some (.tup [.int n, .ref ta, .ref tm])) (h2 : H ta = some (.lst (refs Us))) (h3 : H tm = some (.lst (refs Vs))) (W : MW K H p n a m As Ms)
    (e1 : Us.map (·.2) = As.map (·.2)) (e2 : Vs.map (·.2) = Ms.map (·.2)) (q1 : ∀ z ∈ Us, SqT K H z.1 (z.2.map kV)) (q2 : ∀ z ∈ Vs, SqT K H z.1 (z.2.map kV)) : Sv K H 3 (.ref tp) (.ref p) := by
  have l1 : Us.length = As.length := by
    have := congrArg List.length e1
    rwa [List.length_map, List.length_map] at this
  have l2 : Vs.length = Ms.length := by
    have := congrArg List.length e2
    rwa [List.length_map, List.length_map] at this
  have w1 := W.la
  have w2 := W.lm
  refine .inr ⟨tp, p, _, _, rfl, rfl, .inr ⟨SqT.of h1, SqT.of W.tp⟩, by show 3 ≤ 100000; decide, .cons (.inl ⟨rfl, rfl⟩) (.cons (.inr ⟨ta, a, _, _, rfl, rfl, .inl ⟨SqL.of h2, SqL.of W.ha⟩, by rw [List.length_map]; omega, sv_refs e1 q1 W.qa fun z hz => ?_⟩) (.cons (.inr ⟨tm, m, _, _, rfl, rfl, .inl ⟨SqL.of h3, SqL.of W.hm⟩, by rw [List.length_map]; omega, sv_refs e2 q2 W.qm fun z hz => ?_⟩) .nil))⟩
  · have n1 := W.n1
    rw [((W.ka z hz).tie (by omega)).len]
    decide
  · have n1 := W.n1
    rw [((W.km z hz).tie (by omega)).len]
    decide
section
variable {P : Program} {w : World} {K : PySem.W.Frag} {mg : Str → Option Value} {base : Heap}
theorem mk_use {C x dx la lm : Addr} {J : Hp} {ka km : List TK} {n : Int} {Q : Hp → Prop} {E : XK} (nx : J x = none) (ndx : J dx = none) (ne : dx ≠ x) (n0 : 0 ≤ n) (n1 : n ≤ 81) (ta : TL K J la ka) (ga : ∀ p ∈ ka, AK n p.2) (l64 : ka.length < 4000) (tm : TL K J lm km) (gm : ∀ p ∈ km, MK n p.2) (m64 : km.length < 4000)
    (q : ∀ J' As Ms, (∀ J'', (∀ c o, J c = none → J' c = some o → J'' c = some o) → WebAt C J'' x n As Ms) → Srt ka As → Srt km Ms → Same J J' → Q J') : spInit K C [.ref x, .int n, .ref la, .ref lm] (upd (upd J dx (.own x)) x (.ins C dx [])) (fun v H3 => v = .non ∧ Q H3) E := by
  have s1 : Same J (upd J dx (.own x)) := same_upd ndx
  have nx1 : (upd J dx (.own x)) x = none := by
    rw [upd_ne ne.symm]
    exact nx
  have s2 : Same (upd J dx (.own x)) (upd (upd J dx (.own x)) x (.ins C dx [])) := same_upd nx1
  have s := s1.trans s2
  refine ⟨x, dx, n, la, lm, ka, km, rfl, upd_same, n0, n1, ta.same s, ga, l64, tm.same s, gm, m64, fun J' As Ms W sA sM xt => ⟨rfl, q J' As Ms (fun J'' kp => W J'' fun c o hc e => kp c o ?_ e) sA sM fun c o hc => ?_⟩⟩
  · rcases hc with hc | rfl
    · exact s.free hc
    · exact nx
  exact xt c o (ne_of_none hc nx) (s c o hc)
end
end Wb
namespace Tm
open PySem PySem.Spec PyProof.Rows L2
/-! ### several clauses, each of one or more classes, each with a name -/
theorem flyZ_keeps {base h h' : Heap} {l : List Env} {e : Addr} {Z : Obj → Prop} (x : HandSPX.FlyingZ base l e Z h) (k : ∀ b o, h.get? b = some o → h'.get? b = some o) : HandSPX.FlyingZ base l e Z h' := by
  obtain ⟨f1, f2, f3, oe, vs, T, oT, ts, he, hz, hd, h1, hn, hne, hT, hdT, h3⟩ := x
  exact ⟨fun b o q => k b o (f1 b o q), f2, f3.of_keeps fun b o q _ => ⟨o, k b o q, rfl⟩, oe, vs, T, oT, ts, k _ _ he, hz, hd, h1, hn, hne, k _ _ hT, hdT, h3⟩
/-- the clause's classes are told by t -/
def TestOk (X : Cx) (t : Expr) (cs : List Value) : Prop := ∀ (a : Addr) (pn : List (Addr × Obj)) (s : Shared) (σ : L2.St) (H : Hp) (cls : Value) (b : Bool) (Q : Bool → Shared → Prop) (E : Value → Shared → Prop), Inv (X.suite a pn) [] σ H s → PySem.W.Looks (model X.prog X.w) s.heap (typeOf (.ref a)) cls → PySem.W.exmAny X.K cls cs = some b →
  (∀ h', (∀ q o, s.heap.get? q = some o → h'.get? q = some o) → Q b { s with heap := h' }) →
  wpAny (model X.prog X.w) (X.A.mark (some (.ref a))) (eval t X.env) (fun c s1 => wpAny (model X.prog X.w) (X.A.mark (some (.ref a))) (excMatches (.ref a) c) Q E s1) E s
section
variable {X : Cx}
theorem name_ok {x : Str} {c : Value} {np : Pos} {a : Addr} {pn : List (Addr × Obj)} {s : Shared} {σ : L2.St} {H : Hp} {Q : Value → Shared → Prop} {E : Value → Shared → Prop} (hc : Names X x c) (I : Inv (X.suite a pn) [] σ H s) (q : Q c s) : wpAny (model X.prog X.w) (X.A.mark (some (.ref a))) (eval (.Name x np) X.env) Q E s := by
  obtain ⟨hg, hdbg, hm | ⟨hm, hv, hnn⟩⟩ := hc
  · exact ld_glob (X := X.suite a pn) I hg hm q hdbg
  · exact ld_blt (X := X.suite a pn) I hg hm hv q hnn hdbg
theorem test_one {x : Str} {c : Value} {np : Pos} (hc : Names X x c) : TestOk X (.Name x np) [c] := fun a pn s σ H cls b Q E I LT hx q => by
  obtain ⟨b1, d1, x1, y1, z1⟩ := PySem.W.exmAny_cons hx
  have y2 : some false = some d1 := y1
  cases y2
  rw [Bool.or_false] at z1
  subst z1
  exact name_ok hc I ((PySem.W.exm_one I.kIn LT x1).here (q s.heap fun _ _ z => z))
theorem test_three {x1 x2 x3 : Str} {c1 c2 c3 : Value} {p1 p2 p3 tp : Pos} {kk : Nat} (n1 : Names X x1 c1) (n2 : Names X x2 c2) (n3 : Names X x3 c3) : TestOk X (.Tuple [.Name x1 p1, .Name x2 p2, .Name x3 p3] kk tp) [c1, c2, c3] := fun a pn s σ H cls b Q E I LT hx q => by
  refine wpAny_Tuple ?_
  refine wpAny_items_cons (name_ok n1 I ?_)
  refine wpAny_items_cons (name_ok n2 I ?_)
  refine wpAny_items_cons (name_ok n3 I ?_)
  refine wpAny_items_nil ⟨by size_fits, ?_⟩
  have kp : ∀ q o, s.heap.get? q = some o → (s.heap.push { cls := .type "tuple", data := .seq [c1, c2, c3].toArray }).get? q = some o := fun _ _ z => Heap.get?_push_of_some _ z
  exact (PySem.W.exm_tup3 (I.kIn.keeps kp) (LT.keeps kp) (Heap.get?_push_size s.heap rfl) hx).here (q _ kp)
theorem test_four {x1 x2 x3 x4 : Str} {c1 c2 c3 c4 : Value} {p1 p2 p3 p4 tp : Pos} {kk : Nat} (n1 : Names X x1 c1) (n2 : Names X x2 c2) (n3 : Names X x3 c3) (n4 : Names X x4 c4) : TestOk X (.Tuple [.Name x1 p1, .Name x2 p2, .Name x3 p3, .Name x4 p4] kk tp) [c1, c2, c3, c4] := fun a pn s σ H cls b Q E I LT hx q => by
  refine wpAny_Tuple ?_
  refine wpAny_items_cons (name_ok n1 I ?_)
  refine wpAny_items_cons (name_ok n2 I ?_)
  refine wpAny_items_cons (name_ok n3 I ?_)
  refine wpAny_items_cons (name_ok n4 I ?_)
  refine wpAny_items_nil ⟨by size_fits, ?_⟩
  have kp : ∀ q o, s.heap.get? q = some o → (s.heap.push { cls := .type "tuple", data := .seq [c1, c2, c3, c4].toArray }).get? q = some o := fun _ _ z => Heap.get?_push_of_some _ z
  exact (PySem.W.exm_tup4 (I.kIn.keeps kp) (LT.keeps kp) (Heap.get?_push_size s.heap rfl) hx).here (q _ kp)
end
abbrev Cl : Type := List Value × Nat × (Addr → Value → Option Addr → TS)
/-- the ends of a suite whose name, in slot i, goes -/
abbrev endsOf (i : Nat) (D : Ends) : Ends := { nx := fun σ' H' => D.nx (σ'.set i none) H', rt := D.rt, bk := fun σ' H' => D.bk (σ'.set i none) H', ct := fun σ' H' => D.ct (σ'.set i none) H' }
def wM (K : PySem.W.Frag) (Wout : WX) (D : Ends) : List Cl → WX
  | [] => Wout
  | (cs, i, ts) :: r => fun cls d σ H => ∃ b, PySem.W.exmAny K cls cs = some b ∧ (b = true → ∀ a, H a = none → ts a cls d (endsOf i D) (σ.set i (some (.ref a))) H) ∧ (b = false → wM K Wout D r cls d σ H)
inductive HdsA (X : Cx) : List ExceptHandler → List Cl → Prop
  | nil : HdsA X [] []
  | cons {t : Expr} {n : Str} {cs : List Value} {i : Nat} {ts : Addr → Value → Option Addr → TS} {b₀ : Stmt} {suite : List Stmt} {pos' : Pos} {hds : List ExceptHandler} {l : List Cl} (ht : TestOk X t cs) (hi : X.N[i]? = some n) (hln : X.env.kindOf n = some .local)
      (hsu : ∀ (a : Addr) (oe : Obj) (cls : Value) (d : Option Addr) (pn : List (Addr × Obj)), Zc cls d oe → (∃ vs, oe.data = .fields vs) → PSs (X.suite a ((a, oe) :: pn)) (b₀ :: suite) (ts a cls d)) (r : HdsA X hds l) :
      HdsA X (.ExceptHandler (some t) (some n) (b₀ :: suite) pos' :: hds) ((cs, i, ts) :: l)
/-- an error of the class cls is in the air: g, the state in which it came up; G, what it may not touch -/
structure Air (X : Cx) (pins : List (Addr × Obj)) (st : L2.St) (M : Hp) (cls : Value) (dd : Option Addr) (ea : Addr) (G : Heap) (g now : Shared) : Prop where
  inv : Inv X pins st M g
  keeps : ∀ p ob, g.heap.get? p = some ob → p ∉ frs X.stack → G.get? p = some ob
  slots : g.heap.UpToSlots now.heap
  new : M ea = none
  same : now.os = g.os
  bare : AllBare now.gens
section
variable {X : Cx} {pins : List (Addr × Obj)} {st : L2.St} {M : Hp} {cls : Value} {dd : Option Addr} {ea : Addr} {G : Heap} {g now : Shared}
theorem Air.land (a : Air X pins st M cls dd ea G g now) {k : Heap} (fl : HandSPX.FlyingZ G (X.env :: X.outer) ea (Zc cls dd) k) (u : now.heap.UpToSlots k) : Inv X pins st M { now with heap := k } :=
  a.inv.landed a.keeps fl.1 (a.slots.trans u) a.same a.bare
theorem not_frame {k : Heap} (fl : HandSPX.FlyingZ G (X.env :: X.outer) ea (Zc cls dd) k) : ea ∉ frs (X.env :: X.outer) := fun hm => by
  obtain ⟨ob, us, ho, _, hu⟩ := fl.there
  obtain ⟨_, ob2, ho2, no⟩ := fl.2.2.1.mem hm
  cases ho.symm.trans ho2
  exact no us hu
theorem not_locals (hf : X.env.frame = some X.env.locals) (nf : ea ∉ frs (X.env :: X.outer)) : ea ≠ X.env.locals := fun z =>
  nf (List.mem_filterMap.mpr ⟨X.env, List.mem_cons_self, by rw [hf, z]⟩)
theorem not_outer (nf : ea ∉ frs (X.env :: X.outer)) : ea ∉ X.fs := fun hm => by
  obtain ⟨v, hv, hq⟩ := List.mem_filterMap.mp hm
  exact nf (List.mem_filterMap.mpr ⟨v, List.mem_cons_of_mem _ hv, hq⟩)
/-- no clause met it: it goes on -/
theorem air_on {Wout : WX} {D : Ends} (hs : X.stack = X.env :: X.outer) (hf : X.env.frame = some X.env.locals) (tk : Takes X Wout) (a : Air X pins st M cls dd ea G g now) {k : Heap} (fl : HandSPX.FlyingZ G (X.env :: X.outer) ea (Zc cls dd) k) (u : now.heap.UpToSlots k) (w : Wout cls dd st M) :
    wpAny (model X.prog X.w) X.A (handleBy (.ref ea) X.env []) (SP X pins D) X.xe { now with heap := k } := by
  have up : wpAny (model X.prog X.w) X.A (setFlight (.ref ea) X.env.frame) (fun _ z => wpAny (model X.prog X.w) X.A (throw (.ref ea) : Sem Flow) (SP X pins D) X.xe z) X.xe { now with heap := k } := by
    rw [hf]
    exact HandSPX.setFlight_upZ fl fun m hm um => wpAny_throw (tk _ _ ⟨ea, G, g, pins, st, M, cls, dd, rfl, a.inv, a.keeps, (a.slots.trans u).trans um, .inr (.inr (by rw [hs]; exact hm)), a.new, a.same, a.bare, w⟩)
  refine wpAny_handleBy_nil ?_
  obtain ⟨_, _, _, ob, us, tb, _, _, ho, _, hu, h1, _⟩ := id fl
  unfold PySem.passOn
  refine wpAny_bind (wpAny_field ho hu h1 ?_)
  rw [if_neg (by simp : ¬ ((Value.ref tb == Value.none) = true))]
  first
    | exact wpAny_bind (wpAny_pure (wpAny_bind up))
    | exact wpAny_bind up
/-- a clause's suite, its name bound and gone behind it -/
theorem air_suite {E1 E2 : Value → Shared → Prop} {i : Nat} {n : Str} {pos' : Pos} {b₀ : Stmt} {suite : List Stmt} {ts : Addr → Value → Option Addr → TS} {D : Ends} (hf : X.env.frame = some X.env.locals) (hN : X.N.Nodup) (hi : X.N[i]? = some n) (hl : X.env.kindOf n = some .local) (a : Air X pins st M cls dd ea G g now) (nf : ea ∉ frs (X.env :: X.outer))
    (hsu : ∀ (a : Addr) (oe : Obj) (cls : Value) (d : Option Addr) (pn : List (Addr × Obj)), Zc cls d oe → (∃ vs, oe.data = .fields vs) → PSs (X.suite a ((a, oe) :: pn)) (b₀ :: suite) (ts a cls d))
    (w : ts ea cls dd (endsOf i D) (st.set i (some (.ref ea))) M) {k : Heap} (fl : HandSPX.FlyingZ G (X.env :: X.outer) ea (Zc cls dd) k) (u : now.heap.UpToSlots k) {ob : Obj} {us : Array Value} (ho : k.get? ea = some ob) (hz : Zc cls dd ob) (hu : ob.data = .fields us) :
    wpAny (model X.prog X.w) (X.A.mark (some (.ref ea))) (storeName X.env n (.ref ea)) (fun _ z => wpAny (model X.prog X.w) (X.A.mark (some (.ref ea))) (execs (b₀ :: suite) X.env) (fun fw z2 => wpAny (model X.prog X.w) X.A (do bindName X.env n .none; unbindBehindTheSuite X.env n pos') (fun _ z3 => SP X pins D fw z3) X.xe z2) E2 z) E1 { now with heap := k } := by
  refine store_ok (X := X.suite ea ((ea, ob) :: (X.pn ++ pins))) (v := .ref ea) ((a.land fl u).suite ho hu a.new (not_locals hf nf) (not_outer nf)) hN hi (.inl hl) rfl (fun z S => ?_) (.inr hl)
  refine wpAny_mono ((hsu ea ob cls dd (X.pn ++ pins) hz ⟨_, hu⟩).run [] z _ M _ S w) (fun fw z2 hp => ?_) fun _ _ bad => bad.elim
  have away : ∀ {τ : L2.St} {L : Hp} {R : Shared → Prop}, Inv (X.suite ea ((ea, ob) :: (X.pn ++ pins))) [] τ L z2 → (∀ y, Inv X pins (τ.set i none) L y → R y) → wpAny (model X.prog X.w) X.A (do bindName X.env n .none; unbindBehindTheSuite X.env n pos') (fun _ y => R y) X.xe z2 :=
    fun S2 hR => gone_ok (S2.unsuite a.inv.ok) hN hi hl hR
  cases fw with
  | ret _ =>
    obtain ⟨v, τ, L, S2, rv, hq⟩ := hp
    exact away S2 fun y J => ⟨v, _, L, J, rv, hq⟩
  | _ =>
    obtain ⟨τ, L, S2, hq⟩ := hp
    exact away S2 fun y J => ⟨_, L, J, hq⟩
/-- the clauses, one after the other -/
theorem air_clauses {Wout : WX} {D : Ends} (hs : X.stack = X.env :: X.outer) (hf : X.env.frame = some X.env.locals) (hN : X.N.Nodup) (tk : Takes X Wout) (a : Air X pins st M cls dd ea G g now) (nf : ea ∉ frs (X.env :: X.outer)) {hds : List ExceptHandler} {l : List Cl} (hh : HdsA X hds l) :
    ∀ k : Heap, HandSPX.FlyingZ G (X.env :: X.outer) ea (Zc cls dd) k → now.heap.UpToSlots k → wM X.K Wout D l cls dd st M → wpAny (model X.prog X.w) X.A (handleBy (.ref ea) X.env hds) (SP X pins D) X.xe { now with heap := k } := by
  induction hh with
  | nil => exact fun k fl u w => air_on hs hf tk a fl u w
  | cons ht hi hl hsu _ ih =>
    rintro k fl u ⟨b, hb, yes, no⟩
    obtain ⟨ob, us, ho, hz, hu⟩ := fl.there
    have ty : PySem.W.Looks (model X.prog X.w) k (typeOf (.ref ea)) cls := fun _ _ _ _ kk hq => wpAny_typeOf_ref (kk _ _ ho) (by rw [hz.1]; exact hq)
    refine wpAny_handleBy_cons (codeAny_handlers_test (ht ea _ { now with heap := k } st M cls b _ _ ((a.land fl u).suite ho hu a.new (not_locals hf nf) (not_outer nf)) ty hb fun m kp => ?_)) (fun z => by cases z)
    have fm := flyZ_keeps fl kp
    have um := u.trans (Heap.UpToSlots.of_keeps kp)
    cases b with
    | false => exact ih m fm um (no rfl)
    | true =>
      refine codeAny_handlers_suite_as (HandSPX.lands_againZ fm fun m2 f2 u2 => ?_)
      obtain ⟨ob2, us2, ho2, hz2, hu2⟩ := f2.there
      exact air_suite hf hN hi hl a nf hsu (yes rfl ea a.new) f2 (um.trans u2) ho2 hz2 hu2
end
section
variable {X : Cx} {body : List Stmt} {c0 : ExceptHandler} {cs : List ExceptHandler} {l : List Cl} {pos : Pos} {tb : WX → TS} {Wout : WX}
theorem ps_tryM (hs : X.stack = X.env :: X.outer) (hf : X.env.frame = some X.env.locals) (hN : X.N.Nodup) (tk : Takes X Wout)
    (hb : ∀ (W : WX) (pn : List (Addr × Obj)) (xe : Value → Shared → Prop), Takes (X.tr pn xe) W → PassesOwn (model X.prog X.w) X.A X.env xe → PSs (X.tr pn xe) body (tb W))
    (hh : HdsA X (c0 :: cs) l) : PS X (.Try body (c0 :: cs) [] [] pos) (fun D σ H => tb (wM X.K Wout D l) D σ H) := by
  refine ⟨fun pins s σ H D I h => wpAny_Try_except ?_⟩
  refine wpAny_mono ((hb (wM X.K Wout D l) (X.pn ++ pins) _ ?_ PassesOwn.looking).run [] s σ H D (I.toTry _) h) (fun fw z hp => ?_) fun _ _ hx => hx
  · rintro u now ⟨ea, G, g, pins', st, M, cls, dd, rfl, J, nb, up, sky, na, os, ag, w⟩
    have a : Air X pins st M cls dd ea G g now := ⟨J.ofTry I.ok, nb, up, na, os, ag⟩
    rw [show (X.tr (X.pn ++ pins) _).stack = X.env :: X.outer from hs] at sky
    exact Sky.land Zc.steady (by rw [I.ok.frames, hs]) hf sky fun k fl uk => air_clauses hs hf hN tk a (not_frame fl) hh k fl uk w
  · cases fw with
    | ret _ =>
      obtain ⟨v, τ, L, J, rv, hq⟩ := hp
      exact ⟨v, τ, L, J.ofTry I.ok, rv, hq⟩
    | _ =>
      obtain ⟨τ, L, J, hq⟩ := hp
      first
        | exact wpAny_execs_nil ⟨τ, L, J.ofTry I.ok, hq⟩
        | exact ⟨τ, L, J.ofTry I.ok, hq⟩
end
/-! ### a field of the caught error, whatever its class -/
def tXfA (K : PySem.W.Frag) (a : Addr) (cls : Value) (d : Option Addr) (f : Str) (te : TE) : TE := fun σ H Q => te σ H fun x H1 => x = .ref a ∧ ∃ (C dd : Addr) (fs : List (Str × V)) (v : V), cls = .ref C ∧ XfC K C ∧ PySem.W.findIn K (.ref C) f = some none ∧ d = some dd ∧ H1 dd = some (.xd fs) ∧ fs.lookup f = some v ∧ Q v H1
theorem pe_xfA {X : Cx} {ea : Addr} {ob : Obj} {cls : Value} {d : Option Addr} {pn : List (Addr × Obj)} {e : Expr} {te : TE} {pos : Pos} {n : Str} (hz : Zc cls d ob) (hf : ∃ us, ob.data = .fields us) (he : PE (X.suite ea ((ea, ob) :: pn)) e te) (hb : attributeBase e n X.env (eval e X.env) = eval e X.env := by rfl) :
    PE (X.suite ea ((ea, ob) :: pn)) (.Attribute e n pos) (tXfA X.K ea cls d n te) := ⟨fun pins s σ H Q I h => attr_of hb (thn (he.run pins s σ H _ I h) fun got z ⟨y, L, J, ry, ey, C, dd, fs, v, ec, T, no, ed, hd, hl, q⟩ => by
    cases ey
    cases ec
    cases ed
    cases (show got = Value.ref ea from ry)
    obtain ⟨us, hu⟩ := hf
    have there := (J.pin (ea, ob) (List.mem_append_left _ List.mem_cons_self)).1
    obtain ⟨m, hn, rel⟩ := (show ObjOk X.prog X.w L z.heap dd (.xd fs) from J.hok dd _ hd)
    obtain ⟨od, ho, hk⟩ := lookIn_ns hn
    have rn := rel n
    rw [hl] at rn
    obtain ⟨r, hr, rr⟩ := RelO.some_of rn
    refine HandSPX.exc_get J.kIn (od := some od) ⟨there, hz.1, ?_, ?_⟩ T.ga T.gg T.exC (PySem.W.findObj_own T.hdC no rfl (by rw [hk, hr])) (handed_of rr) ⟨v, L, J.tok _, rr, q⟩
    · unfold PySem.W.notCls
      rw [hu] <;> rfl
    · rw [hz.2]
      exact ho)⟩
/-! ### what a class of errors over ValueError must have, as one Bool -/
def oexB (K : PySem.W.Frag) (C : Addr) : Bool := match K.lookup C with
  | some ⟨.type "type", _, .cls cd, sl⟩ => (match cd.mro, sl.toList with
    | .ref C' :: bm, [_, _, _, _, some (.builtin n), _] => C' == C && n == "ValueError.__new__" && !cd.hasDel && cd.hasDict && HandSPX.refsVE bm
    | _, _ => false)
  | _ => false
theorem oex_cls {K : PySem.W.Frag} {C : Addr} (q : oexB K C = true) : ∃ nm q N bs bm sn sub ab col dd k0 k1 k2 k3 k5, K.lookup C = some (excClassObj nm q C N bs bm true sn sub ab col dd k0 k1 k2 k3 k5 "ValueError.__new__") ∧ PySem.HandSPX.refsVE bm = true := by
  unfold oexB at q
  split at q
  · rename_i dd cd sl ho
    split at q
    · rename_i C' bm k0 k1 k2 k3 n k5 hm hs
      simp only [Bool.and_eq_true, beq_iff_eq, Bool.not_eq_true'] at q
      obtain ⟨⟨⟨⟨rfl, rfl⟩, hdel⟩, hdi⟩, ht⟩ := q
      obtain ⟨nm, bs, mro, ns, qn, hd, sn, sub, ab, col, del⟩ := cd
      dsimp only at hm hdel hdi
      subst hm hdel hdi
      have hsl : sl = #[k0, k1, k2, k3, some (.builtin "ValueError.__new__"), k5] := by
        obtain ⟨l⟩ := sl
        simp only at hs
        rw [hs]
      subst hsl
      exact ⟨nm, qn, ns, bs, bm, sn, sub, ab, col, dd, k0, k1, k2, k3, k5, ho, ht⟩
    · cases q
  · cases q
def errB (K : PySem.W.Frag) (C fI : Addr) (f : Str) : Bool := oexB K C && decide (PySem.W.findIn K (.ref C) "__setattr__" = some (some (.builtin "object.__setattr__"))) && decide (PySem.W.subIn K (.ref C) (.type "BaseException") = some true) && decide (PySem.W.typeIn K (.ref C) = some (.type "type")) && PySem.W.keepIn K (.ref C) &&
  xfB K C && decide (PySem.W.findIn K (.ref C) "word" = some none) && decide (PySem.W.findIn K (.ref C) f = some none) && decide (PySem.W.findIn K (.ref C) "__init__" = some (some (.ref fI))) && decide (PySem.W.typeIn K (.ref fI) = some (.type "function"))
structure ErrC (K : PySem.W.Frag) (C fI : Addr) (f : Str) : Prop where
  oe : OexC K C
  xf : XfC K C
  nw : PySem.W.findIn K (.ref C) "word" = some none
  nf : PySem.W.findIn K (.ref C) f = some none
  iC : PySem.W.findIn K (.ref C) "__init__" = some (some (.ref fI))
  tI : PySem.W.typeIn K (.ref fI) = some (.type "function")
theorem errC_of {K : PySem.W.Frag} {C fI : Addr} {f : Str} (h : errB K C fI f = true) : ErrC K C fI f := by
  unfold errB at h
  simp only [Bool.and_eq_true, decide_eq_true_eq] at h
  obtain ⟨⟨⟨⟨⟨⟨⟨⟨⟨h1, h2⟩, h3⟩, h4⟩, h5⟩, h6⟩, h7⟩, h8⟩, h9⟩, h10⟩ := h
  exact ⟨⟨oex_cls h1, h2, h3, h4, h5⟩, xfB_ok h6, h7, h8, h9, h10⟩
end Tm
namespace Tm
open PySem PySem.Spec PyProof.Rows L2 LamX
/-! ### a lambda handed to a def that calls it within a try: what is raised is wished for at the def's own slots -/
section
variable {X : Cx} {pins : List (Addr × Obj)} {σ : L2.St} {H : Hp} {s : Shared}
/-- what stands at f is the lambda of these parts, made by X -/
structure LamAt (X : Cx) (H : Hp) (s : Shared) (params : Arguments) (body : Expr) (scope : Scope) (f cf : Addr) (pm ct : Value) : Prop where
  at_ : s.heap.get? f = some (PySem.W.kla_obj "<lambda>" (X.env.qual ++ "<lambda>") params body scope (cloFrom X.env.cells scope.names []) pm cf ct)
  own : H f = none
  nofr : f ∉ frs X.stack
  nobind : bindArgs (PySem.W.kla_fn "<lambda>" (X.env.qual ++ "<lambda>") params body scope (cloFrom X.env.cells scope.names []) pm (.ref cf) ct) ⟨[], []⟩ = pure []
/-- it is called, in any state that X's calls have come to -/
theorem LamAt.runs {params : Arguments} {body : Expr} {scope : Scope} {f cf : Addr} {pm ct : Value} {tb : TE} {Wh : XK} {k : Nat} {B : Around} {fr : List Env} {L : Hp} {z : Shared} {Q : VK} (T : LamAt X H s params body scope f cf pm ct) (I : Inv X pins σ H s) (S : LamS X.env.scope scope) (hr : Room (k + 1) B) (e0 : Env0 X.prog X.w X.K X.mg X.base B fr z L)
    (un : Un (frs X.stack) [] H L s.heap z.heap) (lim : z.heap.NoLimit) (hc : L cf = some (CodeO cf (X.env.qual ++ "<lambda>"))) (hb : Room k (B.deeper (lamEnv X scope z.heap.objs.size f cf)) → PE (lamCx X B fr z L Wh scope f cf) body tb) (q : tb σ L Q) :
    codeAny (model X.prog X.w) B (.call (.ref f) ⟨[], []⟩) (CR (L2.CX X.prog X.w) fr X.prog X.w L z Q Wh) z := by
  have there := un.keep f _ T.at_ T.own T.nofr (fun m => nomatch (show f ∈ ([] : List Addr) from m))
  obtain ⟨⟨oc, us, tk, h1, h2, h3⟩, _, _⟩ := e0.hok cf _ hc
  refine PySem.W.kla_callFunE hr.depth there rfl S.co S.gen rfl ⟨cf, oc, us, tk, rfl, h1, h2, h3⟩ ?_
  rw [T.nobind]
  refine wpAny_pure (wpAny_newFunctionEnv (fun y hy => (S.own y hy).2) (fun _ hy => absurd hy (by simp)) (fun g hns sb => ⟨lim.fresh _ sb, ?_⟩) S.kind)
  have kp : ∀ p ob, z.heap.get? p = some ob → g.get? p = some ob := fun p ob e => sb.extBut p ob (Nat.ne_of_lt (Heap.lt_size e)) (Heap.get?_push_of_some _ e)
  refine PySem.W.kla_codeExpr (wpAny_mono ((hb (hr.deeper _)).run [] _ _ L Q (lam_start2 (tk := z.toks + ([] : List (Str × Value)).length) I S e0 hr.hd un hns kp) q) (fun v y hy => ?_) fun _ _ hy => hy)
  obtain ⟨r, M, J, rv, hq⟩ := hy
  exact ⟨r, M, J.os, J.bare, J.base, J.hok, rv, hq⟩
/-- the call of what stands in slot i, in the def g that was entered at s by X -/
theorem pe_act2 {CXg : CXT} {Eg : XK} {Ng : List Str} {qg : Str} {sg : Scope} {g f cf : Addr} {cdg pm ct : Value} {params : Arguments} {body : Expr} {scope : Scope} {k i : Nat} {a : Str} {pn : List (Addr × Obj)} {xe : Value → Shared → Prop} {W : WX} {tb : XK → TE} {p1 p2 : Pos} (T : LamAt X H s params body scope f cf pm ct) (I : Inv X pins σ H s) (S : LamS X.env.scope scope)
    (tk : Takes ((cxOf CXg X.prog X.w X.K X.mg X.base Ng qg sg g cdg X.A X.stack s H Eg).tr pn xe) W) (hr : Room (k + 1) (X.A.deeper (envOfC qg sg s.heap.objs.size g cdg)))
    (hbody : ∀ (E : XK) (A : Around) (outer : List Env) (s : Shared) (H : Hp), Room k (A.deeper (lamEnv X scope s.heap.objs.size f cf)) → PE (lamCx X A outer s H E scope f cf) body (tb E))
    (hN : Ng[i]? = some a) (hv : Vis sg a) (hd : (a == ("__debug__" : Str)) = false) (hcd : (a == ("__classdict__" : Str)) = false) :
    PE ((cxOf CXg X.prog X.w X.K X.mg X.base Ng qg sg g cdg X.A X.stack s H Eg).tr pn xe) (.Call (.Name a p1) [] [] p2)
      (fun τ L Q => τ[i]? = some (some (.ref f)) ∧ L cf = some (CodeO cf (X.env.qual ++ "<lambda>")) ∧ tb (fun cls d M => W cls d τ M) σ L Q) := by
  refine ⟨fun pz z τ L Q J ⟨hs, hc, ht⟩ => ?_⟩
  refine wpAny_Call_Name_kw (thn ((pe_var (pos := p1) (i := i) hN hv hd hcd).run pz z τ L (fun v M => v = .ref f ∧ M = L) J ⟨.ref f, hs, rfl, rfl⟩) ?_)
  rintro u y ⟨v, M, J1, ru, rfl, rfl⟩
  cases (show u = Value.ref f from ru)
  have un : Un (frs X.stack) [] H M s.heap y.heap := J1.base
  refine PySem.W.callWith_F0 ⟨_, _, _, _, un.keep f _ T.at_ T.own T.nofr (fun m => nomatch (show f ∈ ([] : List Addr) from m))⟩ (wpAny_call (codeAny_mono (T.runs I S hr J1.env0 un J1.nolimit hc (fun h => hbody _ _ _ y M h) ht) fun r y2 hy => ?_))
  match r, hy with
  | .error er, hy => exact passAt tk τ pz M y er y2 J1 hy
  | .ok (.ret _), hy => exact J1.after hy
  | .ok .next, hy => exact False.elim hy
  | .ok .brk, hy => exact False.elim hy
  | .ok .cont, hy => exact False.elim hy
/-- the def that calls what it got, in slot 0 -/
def GivesTo2 (X : Cx) (Ng : List Str) (x : Str) (sg : Scope) (g : Addr) (cdg : Value) (bg : List Stmt) (a : Str) (q : Str) (TT : (XK → Hp → VK → Prop) → Hp → VK → Prop) : Prop :=
  ∀ (f cf : Addr) (s : Shared) (H : Hp) (Q : VK) (tl : XK → Hp → VK → Prop),
    (∀ (W : WX) (pn : List (Addr × Obj)) (xe : Value → Shared → Prop) (p1 p2 : Pos), Takes ((cxOf C8.CX0 X.prog X.w X.K X.mg X.base Ng x sg g cdg X.A X.stack s H C8.E0).tr pn xe) W →
      PE ((cxOf C8.CX0 X.prog X.w X.K X.mg X.base Ng x sg g cdg X.A X.stack s H C8.E0).tr pn xe) (.Call (.Name a p1) [] [] p2) (fun τ L Q => τ[0]? = some (some (.ref f)) ∧ L cf = some (CodeO cf q) ∧ tl (fun cls d M => W cls d τ M) L Q)) →
    H cf = some (CodeO cf q) → TT tl H Q →
    ∃ t, PSs (cxOf C8.CX0 X.prog X.w X.K X.mg X.base Ng x sg g cdg X.A X.stack s H C8.E0).nox bg t ∧ t { nx := fun _ M => Q .non M, rt := Q } (L2.start Ng [.ref f]) H
/-- x(lambda: body) -/
theorem pe_lamcall2 {T : List (Addr × Str)} {TT : (XK → Hp → VK → Prop) → Hp → VK → Prop} {x a : Str} {g c PT : Addr} {k : Nat} {pg : Arguments} {bg : List Stmt} {sg : Scope} {dV kV doc pm cdv ct oc : Value} {an od : Option Addr} {osl : Array (Option Value)} {Ng : List Str} {params : Arguments} {body : Expr} {scope : Scope} {t : XK → TE} {p lpos pos : Pos} (hg : Gl X x) (hm : X.mg x = some (.ref g)) (hk : PySem.W.keepIn X.K (.ref g) = true)
    (lk : X.K.lookup g = some ⟨oc, od, .func (PySem.W.fnOf x x pg bg sg dV kV doc pm an cdv ct), osl⟩) (hcg : PySem.W.codeIn X.K cdv x = true) (hb : L2.Binds X.K (PySem.W.fnOf x x pg bg sg dV kV doc pm an cdv ct) [a] []) (Sg : FnScope Ng [a] sg) (hNg : Ng[0]? = some a) (hva : Vis sg a) (hG : GivesTo2 X Ng x sg g cdv bg a (X.env.qual ++ "<lambda>") TT)
    (TB : TabB X.base X.mg c PT) (hcode : X.env.code = .ref c) (hmT : (PT, X.env.qual ++ "<lambda>") ∈ T) (hu : ∀ p ∈ T, p.1 = PT → p.2 = X.env.qual ++ "<lambda>") (hr : Room (k + 2) X.A) (S : LamS X.env.scope scope) (hdef : defaultsOf params X.env = ([], []))
    (hbind : ∀ (q : Str) (cl : List (Str × Addr)) (pm cv ctv : Value), bindArgs (PySem.W.kla_fn "<lambda>" q params body scope cl pm cv ctv) ⟨[], []⟩ = pure [])
    (hbody : ∀ (A : Around) (outer : List Env) (s : Shared) (H : Hp) (E : XK) (f cf : Addr), Room k (A.deeper (lamEnv X scope s.heap.objs.size f cf)) → PE (lamCx X A outer s H E scope f cf) body (t E))
    (hdb : (x == ("__debug__" : Str)) = false := by decide) (hd : (a == ("__debug__" : Str)) = false := by decide) (hcd : (a == ("__classdict__" : Str)) = false := by decide) :
    PE X (.Call (.Name x p) [.Lambda params body scope lpos] [] pos) (tLam T TT t) := by
  refine ⟨fun pins s σ H Q I ⟨hT, h⟩ => wpAny_Call_Name_kw (ld_glob I hg hm (PySem.W.callWith_K (h₀ := X.base) I.ok.mod.kin hk ?_ (by rfl) (by rfl)) hdb)⟩
  show wpAny _ _ (spliced ((false, eval (.Lambda params body scope lpos) X.env) :: backTo pos (starEach [] X.env))) _ _ s
  refine Calls.spliced_cons (lam_make2 I TB hcode hmT hu hT hdef (S.has I.ok) fun f cf pf cv M z J eN TM hf nf nfr hco => Calls.spliced_nil ⟨J.kIn, wpAny_call ?_⟩)
  have LA : LamAt X M z params body scope f cf pf cv := ⟨hf, nf, nfr, hbind _ _ _ _ _⟩
  refine codeAny_mono (R := CR C8.CX0 X.stack X.prog X.w M z Q C8.E0) (run_ofS (N := Ng) (ps := [a]) (us := [.ref f]) (vs := [.ref f]) lk hcg Sg hr J.env0 (hb z [.ref f] J.kIn rfl) (.cons rfl .nil) rfl fun room => ?_) fun r y hy => ?_
  · obtain ⟨tt, h1, h2⟩ := hG f cf z M Q (fun E L Q' => t E σ L Q') (fun W pn xe p1 p2 tk => pe_act2 (i := 0) LA J S tk room (fun E A outer s H h => hbody A outer s H E f cf h) hNg hva hd hcd) hco (h M eN TM)
    exact ⟨tt, h1.nox, h2⟩
  · match r, hy with
    | .error _, hy => exact (show False from hy).elim
    | .ok (.ret _), hy => exact J.after hy
    | .ok .next, hy => exact False.elim hy
    | .ok .brk, hy => exact False.elim hy
    | .ok .cont, hy => exact False.elim hy
end
end Tm
namespace Wb
open PySem PySem.Spec PyProof.Rows L2 RZ Sg Tm
/-! ### errors raised -/
def spE (C : Addr) (f w : Str) : Sp := fun vs H Q _ => ∃ a v, vs = [.ref a, v] ∧ H a = some (exo a C none) ∧ ∀ d, H d = none → d ≠ a → Q .non (upd (upd (upd H d (exd d [(f, v)])) a (exo a C (some d))) d (exd d [("word", .str w), (f, v)]))
/-- the error's own dict, as it is told -/
abbrev xdE (w f : Str) (v : V) : HO := .xd [("word", .str w), (f, v)]
theorem mkE {C : Addr} {f w : Str} {te : TE} {σ : L2.St} {H H1 : Hp} {v : V} {Q : XK} (hv : ∀ Q' : VK, Q' v H1 → te σ H Q') (q : ∀ d H', H1 d = none → H' d = some (xdE w f v) → Same H1 H' → Q (.ref C) (some d) H') : tMkO C (spE C f w) [] (tCons te tNil) σ H Q := by
  refine hv _ ⟨by show 1 ≤ 1000; decide, fun a na => ⟨a, v, rfl, upd_same, fun d nd ne => ⟨rfl, d, _, ?_, upd_same, ?_, ?_⟩⟩⟩
  · rw [upd_ne ne.symm]
    exact upd_same
  · rw [upd_ne ne] at nd
    exact nd
  · rw [upd_ne ne] at nd
    refine q d _ nd upd_same fun c o h => ?_
    have ca : c ≠ a := ne_of_none h na
    have cd : c ≠ d := ne_of_none h nd
    rw [upd_ne cd, del_ne ca, upd_ne cd, upd_ne ca, upd_ne cd, upd_ne ca]
    exact h
/-- what a call within may raise is what the def raises -/
theorem passE {X : Cx} {E : XK} {E1 : Value → Shared → Prop} (hs : X.stack = X.env :: X.outer) (hf : X.env.frame = some X.env.locals) (hex : X.ex = [])
    (hx : X.xe = fun e s' => wpAny (model X.prog X.w) X.A (leaving X.env e) (fun _ s'' => L2.CX X.prog X.w X.outer X.H_0 X.s_0 E e s'') E1 s') : Passes (L2.CX X.prog X.w) X E := passes_call (takes_of hs hf hex hx) fun _ _ _ _ h => h
def ErrTo (H : Hp) (E : XK) (C : Addr) (x f : Str) (v : V) : Prop := ∀ d H', H d = none → H' d = some (xdE x f v) → Same H H' → E (.ref C) (some d) H'
structure EDf (P : Program) (w : World) (K : PySem.W.Frag) (mg : Str → Option Value) (base : Heap) (x f : Str) (C fI : Addr) (fd : FuncData) : Prop where
  ok : FnOk P w K mg base CX0 1 fI fd ["self", f] (spE C f x)
  er : ErrC K C fI f
  gl : mg x = some (.ref C)
  bd : Binds K fd ["self", f] []
structure DfX (P : Program) (w : World) (K : PySem.W.Frag) (mg : Str → Option Value) (base : Heap) (k : Nat) (x : Str) (ps : List Str) (sp : Sp) (f : Addr) (fd : FuncData) : Prop where
  ok : FnOk P w K mg base (L2.CX P w) k f fd ps sp
  gl : mg x = some (.ref f)
  kp : PySem.W.keepIn K (.ref f) = true
  bd : Binds K fd ps []
structure MfX (P : Program) (w : World) (K : PySem.W.Frag) (mg : Str → Option Value) (base : Heap) (k : Nat) (C : Addr) (m : Str) (ps : List Str) (sp : Sp) (f : Addr) (fd : FuncData) : Prop where
  ok : FnOk P w K mg base (L2.CX P w) k f fd ps sp
  mt : Meth K C m f
  bd : Binds K fd ps []
structure MfN (P : Program) (w : World) (K : PySem.W.Frag) (mg : Str → Option Value) (base : Heap) (k : Nat) (C : Addr) (m : Str) (ps : List Str) (sp : Sp) (f : Addr) (fd : FuncData) : Prop where
  ok : FnOk P w K mg base CX0 k f fd ps sp
  mt : Meth K C m f
  bd : Binds K fd ps []
section
variable {P : Program} {w : World} {K : PySem.W.Frag} {mg : Str → Option Value} {base : Heap}
abbrev sEBadSize : Stmt := inClass (topS 3) 0
theorem scEBadSize : FnScope ["self", "number"] ["self", "number"] (defScope sEBadSize) := ⟨rfl, rfl, rfl, by decide +kernel, rfl, by decide +kernel, by decide +kernel⟩
theorem ok_eBadSize {f C : Addr} {fd : FuncData} (F : Fun K "__init__" "BadSize.__init__" sEBadSize f fd) (T : ErrC K C f "number") : FnOk P w K mg base CX0 1 f fd ["self", "number"] (spE C "number" "BadSize") := by
  refine F.ok scEBadSize (fun vs H Q E h => ?_) (fun cdv A outer s H vs Q E hr h => ?_)
  · obtain ⟨a, v, rfl, _⟩ := h
    rfl
  · obtain ⟨a, v, rfl, ha, K1⟩ := h
    refine ⟨_, pss_cons (ps_ost (pv 0) (pv 1)) (pss_one (ps_ost (pv 0) pe_str)), _, rfl, _, rfl, a, C, rfl, T.oe, T.nf, .inl ⟨ha, fun d nd ne => ?_⟩⟩
    exact ⟨_, rfl, a, C, rfl, T.oe, T.nw, .inr ⟨d, _, upd_same, by rw [upd_ne ne]; exact upd_same, by show 1 ≤ 900; decide, K1 d nd ne⟩⟩
abbrev sEBadArrow : Stmt := inClass (topS 4) 0
theorem scEBadArrow : FnScope ["self", "at"] ["self", "at"] (defScope sEBadArrow) := ⟨rfl, rfl, rfl, by decide +kernel, rfl, by decide +kernel, by decide +kernel⟩
theorem ok_eBadArrow {f C : Addr} {fd : FuncData} (F : Fun K "__init__" "BadArrow.__init__" sEBadArrow f fd) (T : ErrC K C f "at") : FnOk P w K mg base CX0 1 f fd ["self", "at"] (spE C "at" "BadArrow") := by
  refine F.ok scEBadArrow (fun vs H Q E h => ?_) (fun cdv A outer s H vs Q E hr h => ?_)
  · obtain ⟨a, v, rfl, _⟩ := h
    rfl
  · obtain ⟨a, v, rfl, ha, K1⟩ := h
    refine ⟨_, pss_cons (ps_ost (pv 0) (pv 1)) (pss_one (ps_ost (pv 0) pe_str)), _, rfl, _, rfl, a, C, rfl, T.oe, T.nf, .inl ⟨ha, fun d nd ne => ?_⟩⟩
    exact ⟨_, rfl, a, C, rfl, T.oe, T.nw, .inr ⟨d, _, upd_same, by rw [upd_ne ne]; exact upd_same, by show 1 ≤ 900; decide, K1 d nd ne⟩⟩
abbrev sEBadMark : Stmt := inClass (topS 5) 0
theorem scEBadMark : FnScope ["self", "at"] ["self", "at"] (defScope sEBadMark) := ⟨rfl, rfl, rfl, by decide +kernel, rfl, by decide +kernel, by decide +kernel⟩
theorem ok_eBadMark {f C : Addr} {fd : FuncData} (F : Fun K "__init__" "BadMark.__init__" sEBadMark f fd) (T : ErrC K C f "at") : FnOk P w K mg base CX0 1 f fd ["self", "at"] (spE C "at" "BadMark") := by
  refine F.ok scEBadMark (fun vs H Q E h => ?_) (fun cdv A outer s H vs Q E hr h => ?_)
  · obtain ⟨a, v, rfl, _⟩ := h
    rfl
  · obtain ⟨a, v, rfl, ha, K1⟩ := h
    refine ⟨_, pss_cons (ps_ost (pv 0) (pv 1)) (pss_one (ps_ost (pv 0) pe_str)), _, rfl, _, rfl, a, C, rfl, T.oe, T.nf, .inl ⟨ha, fun d nd ne => ?_⟩⟩
    exact ⟨_, rfl, a, C, rfl, T.oe, T.nw, .inr ⟨d, _, upd_same, by rw [upd_ne ne]; exact upd_same, by show 1 ≤ 900; decide, K1 d nd ne⟩⟩
abbrev sEBadPoint : Stmt := inClass (topS 6) 0
theorem scEBadPoint : FnScope ["self", "number"] ["self", "number"] (defScope sEBadPoint) := ⟨rfl, rfl, rfl, by decide +kernel, rfl, by decide +kernel, by decide +kernel⟩
theorem ok_eBadPoint {f C : Addr} {fd : FuncData} (F : Fun K "__init__" "BadPoint.__init__" sEBadPoint f fd) (T : ErrC K C f "number") : FnOk P w K mg base CX0 1 f fd ["self", "number"] (spE C "number" "BadPoint") := by
  refine F.ok scEBadPoint (fun vs H Q E h => ?_) (fun cdv A outer s H vs Q E hr h => ?_)
  · obtain ⟨a, v, rfl, _⟩ := h
    rfl
  · obtain ⟨a, v, rfl, ha, K1⟩ := h
    refine ⟨_, pss_cons (ps_ost (pv 0) (pv 1)) (pss_one (ps_ost (pv 0) pe_str)), _, rfl, _, rfl, a, C, rfl, T.oe, T.nf, .inl ⟨ha, fun d nd ne => ?_⟩⟩
    exact ⟨_, rfl, a, C, rfl, T.oe, T.nw, .inr ⟨d, _, upd_same, by rw [upd_ne ne]; exact upd_same, by show 1 ≤ 900; decide, K1 d nd ne⟩⟩
abbrev sEBadText : Stmt := inClass (topS 7) 0
theorem scEBadText : FnScope ["self", "at"] ["self", "at"] (defScope sEBadText) := ⟨rfl, rfl, rfl, by decide +kernel, rfl, by decide +kernel, by decide +kernel⟩
theorem ok_eBadText {f C : Addr} {fd : FuncData} (F : Fun K "__init__" "BadText.__init__" sEBadText f fd) (T : ErrC K C f "at") : FnOk P w K mg base CX0 1 f fd ["self", "at"] (spE C "at" "BadText") := by
  refine F.ok scEBadText (fun vs H Q E h => ?_) (fun cdv A outer s H vs Q E hr h => ?_)
  · obtain ⟨a, v, rfl, _⟩ := h
    rfl
  · obtain ⟨a, v, rfl, ha, K1⟩ := h
    refine ⟨_, pss_cons (ps_ost (pv 0) (pv 1)) (pss_one (ps_ost (pv 0) pe_str)), _, rfl, _, rfl, a, C, rfl, T.oe, T.nf, .inl ⟨ha, fun d nd ne => ?_⟩⟩
    exact ⟨_, rfl, a, C, rfl, T.oe, T.nw, .inr ⟨d, _, upd_same, by rw [upd_ne ne]; exact upd_same, by show 1 ≤ 900; decide, K1 d nd ne⟩⟩
abbrev sEBadNumber : Stmt := inClass (topS 8) 0
theorem scEBadNumber : FnScope ["self", "number"] ["self", "number"] (defScope sEBadNumber) := ⟨rfl, rfl, rfl, by decide +kernel, rfl, by decide +kernel, by decide +kernel⟩
theorem ok_eBadNumber {f C : Addr} {fd : FuncData} (F : Fun K "__init__" "BadNumber.__init__" sEBadNumber f fd) (T : ErrC K C f "number") : FnOk P w K mg base CX0 1 f fd ["self", "number"] (spE C "number" "BadNumber") := by
  refine F.ok scEBadNumber (fun vs H Q E h => ?_) (fun cdv A outer s H vs Q E hr h => ?_)
  · obtain ⟨a, v, rfl, _⟩ := h
    rfl
  · obtain ⟨a, v, rfl, ha, K1⟩ := h
    refine ⟨_, pss_cons (ps_ost (pv 0) (pv 1)) (pss_one (ps_ost (pv 0) pe_str)), _, rfl, _, rfl, a, C, rfl, T.oe, T.nf, .inl ⟨ha, fun d nd ne => ?_⟩⟩
    exact ⟨_, rfl, a, C, rfl, T.oe, T.nw, .inr ⟨d, _, upd_same, by rw [upd_ne ne]; exact upd_same, by show 1 ≤ 900; decide, K1 d nd ne⟩⟩
abbrev sEBadStrike : Stmt := inClass (topS 9) 0
theorem scEBadStrike : FnScope ["self", "at"] ["self", "at"] (defScope sEBadStrike) := ⟨rfl, rfl, rfl, by decide +kernel, rfl, by decide +kernel, by decide +kernel⟩
theorem ok_eBadStrike {f C : Addr} {fd : FuncData} (F : Fun K "__init__" "BadStrike.__init__" sEBadStrike f fd) (T : ErrC K C f "at") : FnOk P w K mg base CX0 1 f fd ["self", "at"] (spE C "at" "BadStrike") := by
  refine F.ok scEBadStrike (fun vs H Q E h => ?_) (fun cdv A outer s H vs Q E hr h => ?_)
  · obtain ⟨a, v, rfl, _⟩ := h
    rfl
  · obtain ⟨a, v, rfl, ha, K1⟩ := h
    refine ⟨_, pss_cons (ps_ost (pv 0) (pv 1)) (pss_one (ps_ost (pv 0) pe_str)), _, rfl, _, rfl, a, C, rfl, T.oe, T.nf, .inl ⟨ha, fun d nd ne => ?_⟩⟩
    exact ⟨_, rfl, a, C, rfl, T.oe, T.nw, .inr ⟨d, _, upd_same, by rw [upd_ne ne]; exact upd_same, by show 1 ≤ 900; decide, K1 d nd ne⟩⟩
abbrev sETooMany : Stmt := inClass (topS 10) 0
theorem scETooMany : FnScope ["self", "bound"] ["self", "bound"] (defScope sETooMany) := ⟨rfl, rfl, rfl, by decide +kernel, rfl, by decide +kernel, by decide +kernel⟩
theorem ok_eTooMany {f C : Addr} {fd : FuncData} (F : Fun K "__init__" "TooMany.__init__" sETooMany f fd) (T : ErrC K C f "bound") : FnOk P w K mg base CX0 1 f fd ["self", "bound"] (spE C "bound" "TooMany") := by
  refine F.ok scETooMany (fun vs H Q E h => ?_) (fun cdv A outer s H vs Q E hr h => ?_)
  · obtain ⟨a, v, rfl, _⟩ := h
    rfl
  · obtain ⟨a, v, rfl, ha, K1⟩ := h
    refine ⟨_, pss_cons (ps_ost (pv 0) (pv 1)) (pss_one (ps_ost (pv 0) pe_str)), _, rfl, _, rfl, a, C, rfl, T.oe, T.nf, .inl ⟨ha, fun d nd ne => ?_⟩⟩
    exact ⟨_, rfl, a, C, rfl, T.oe, T.nw, .inr ⟨d, _, upd_same, by rw [upd_ne ne]; exact upd_same, by show 1 ≤ 900; decide, K1 d nd ne⟩⟩
end
end Wb
namespace Wb
open PySem PySem.Spec PyProof.Rows L2 RZ Sg Tm
end Wb
namespace Wb
open PySem PySem.Spec PyProof.Rows L2 RZ Sg Tm
abbrev sMade : Stmt := topS 34
abbrev sAt : Stmt := topS 28
section
variable {P : Program} {w : World} {K : PySem.W.Frag} {mg : Str → Option Value} {base : Heap}
/-! ### a web made of what was drawn -/
def spMade (K : PySem.W.Frag) (C : Addr) : Sp := fun vs H Q _ => ∃ p n a m As Ms, vs = [.ref p] ∧ MW K H p n a m As Ms ∧ ∀ x H' Us Vs, H x = none → (∀ J, (∀ c o, H c = none → H' c = some o → J c = some o) → WebAt C J x n Us Vs) → Us.map (·.2) = As.map (·.2) → Vs.map (·.2) = Ms.map (·.2) → (∀ z ∈ Us, z ∈ As) → (∀ z ∈ Vs, z ∈ Ms) → Same H H' → Q (.ref x) H'
theorem scMa : FnScope ["_law_m"] ["_law_m"] (defScope sMade) := ⟨rfl, rfl, rfl, by decide +kernel, rfl, by decide +kernel, by decide +kernel⟩
theorem ok_made {f C fI ta tm : Addr} {fd dI : FuncData} (F : Fun K "_law_made" "_law_made" sMade f fd) (gW : mg "Web" = some (.ref C)) (M : Mk K C fI) (FI : FunD K "__init__" "Web.__init__" (defArgs sInit) (defBody sInit) (defScope sInit) [] [("arrows", .ref ta), ("marks", .ref tm)] fI dI)
    (oI : FnOk P w K mg base CX0 2 fI dI psI (spInit K C)) : FnOk P w K mg base CX0 4 f fd ["_law_m"] (spMade K C) := by
  obtain ⟨mv2, k2⟩ := kb2 FI (fun z => nomatch z)
  refine F.ok scMa (fun vs H Q E h => ?_) (fun cdv A outer s H vs Q E hr h => ?_)
  · obtain ⟨p, n, a, m, As, Ms, rfl, _⟩ := h
    rfl
  · obtain ⟨p, n, a, m, As, Ms, rfl, W, K1⟩ := h
    refine ⟨_, pss_one (ps_ret (pe_makeK M oI hr (by rfl) gW k2 pass0 (pa_cons (pe_ix ix_tup (pv 0) pe_int (fun _ _ => rfl)) pa_nil) (pk_cons (pe_ix ix_tup (pv 0) pe_int (fun _ _ => rfl)) (pk_cons (pe_ix ix_tup (pv 0) pe_int (fun _ _ => rfl)) pk_nil)))), ?_⟩
    have n0 := W.n0
    have n1 := W.n1
    have la := W.la
    have lm := W.lm
    refine ret_of ⟨_, rfl, p, _, 0, .int n, rfl, rfl, SqT.of W.tp, atI_nat (j := 0) rfl, _, rfl, p, _, 1, .ref a, rfl, rfl, SqT.of W.tp, atI_nat (j := 1) rfl, _, rfl, p, _, 2, .ref m, rfl, rfl, SqT.of W.tp, atI_nat (j := 2) rfl, rfl, rfl, fun x dx nx ndx ne => ?_⟩
    refine mk_use nx ndx ne n0 (by omega) ⟨.inl (SqL.of W.ha), W.qa⟩ W.ka (by omega) ⟨.inl (SqL.of W.hm), W.qm⟩ W.km (by omega) fun J' Us Vs Wx sU sV s45 => ?_
    exact K1 x J' Us Vs nx Wx (srt_eq sU (fun k => Iff.rfl) (fun z hz => (W.ka z hz).tie (by omega)) (fun z hz => (W.ka z hz).tie (by omega)) W.na W.ra) (srt_eq sV (fun k => Iff.rfl) (fun z hz => (W.km z hz).tie (by omega)) (fun z hz => (W.km z hz).tie (by omega)) W.nm W.rm) sU.of sV.of s45
/-! ### what a call within a lambda raises, told -/
structure Ecs where
  ba : Addr
  bm : Addr
  bt : Addr
  bs : Addr
  sz : Addr
  pt : Addr
  nu : Addr
  tm : Addr
structure AtG (mg : Str → Option Value) (e : Ecs) : Prop where
  ba : mg "BadArrow" = some (.ref e.ba)
  bm : mg "BadMark" = some (.ref e.bm)
  bt : mg "BadText" = some (.ref e.bt)
  bs : mg "BadStrike" = some (.ref e.bs)
  sz : mg "BadSize" = some (.ref e.sz)
  pt : mg "BadPoint" = some (.ref e.pt)
  nu : mg "BadNumber" = some (.ref e.nu)
  tm : mg "TooMany" = some (.ref e.tm)
abbrev hd1 (e : Ecs) : List Value := [.ref e.ba, .ref e.bm, .ref e.bt, .ref e.bs]
abbrev hd2 (e : Ecs) : List Value := [.ref e.sz, .ref e.pt, .ref e.nu]
abbrev hd3 (e : Ecs) : List Value := [.ref e.tm]
/-- errors of the class C, bearing f, are met by the clause that asks for f -/
def AtC (K : PySem.W.Frag) (e : Ecs) (C : Addr) (f : Str) : Prop := (f = "at" ∧ PySem.W.exmAny K (.ref C) (hd1 e) = some true) ∨ (f = "number" ∧ PySem.W.exmAny K (.ref C) (hd1 e) = some false ∧ PySem.W.exmAny K (.ref C) (hd2 e) = some true) ∨
  (f = "bound" ∧ PySem.W.exmAny K (.ref C) (hd1 e) = some false ∧ PySem.W.exmAny K (.ref C) (hd2 e) = some false ∧ PySem.W.exmAny K (.ref C) (hd3 e) = some true)
def atB (K : PySem.W.Frag) (e : Ecs) (C : Addr) (n : Nat) : Bool := match n with
  | 0 => decide (PySem.W.exmAny K (.ref C) (hd1 e) = some true)
  | 1 => decide (PySem.W.exmAny K (.ref C) (hd1 e) = some false) && decide (PySem.W.exmAny K (.ref C) (hd2 e) = some true)
  | _ => decide (PySem.W.exmAny K (.ref C) (hd1 e) = some false) && decide (PySem.W.exmAny K (.ref C) (hd2 e) = some false) && decide (PySem.W.exmAny K (.ref C) (hd3 e) = some true)
theorem atC0 {e : Ecs} {C : Addr} (h : atB K e C 0 = true) : AtC K e C "at" := .inl ⟨rfl, of_decide_eq_true h⟩
theorem atC1 {e : Ecs} {C : Addr} (h : atB K e C 1 = true) : AtC K e C "number" := by
  unfold atB at h
  simp only [Bool.and_eq_true, decide_eq_true_eq] at h
  exact .inr (.inl ⟨rfl, h.1, h.2⟩)
theorem atC2 {e : Ecs} {C : Addr} (h : atB K e C 2 = true) : AtC K e C "bound" := by
  unfold atB at h
  simp only [Bool.and_eq_true, decide_eq_true_eq] at h
  exact .inr (.inr ⟨rfl, h.1.1, h.1.2, h.2⟩)
/-- what is wished of an error -/
def WishAt (K : PySem.W.Frag) (e : Ecs) (Q : VK) : XK := fun cls d H' => ∃ (C fI dd : Addr) (f x : Str) (v : V), cls = .ref C ∧ AtC K e C f ∧ ErrC K C fI f ∧ d = some dd ∧ H' dd = some (xdE x f v) ∧ f ≠ "word" ∧ ∀ p, H' p = none → Q (.ref p) (upd H' p (.tup [.str x, v]))
def TAt (K : PySem.W.Frag) (e : Ecs) : (XK → Hp → VK → Prop) → Hp → VK → Prop := fun tl H Q => ∀ (E1 : XK) (Q1 : VK), (∀ cls d H', WishAt K e Q cls d H' → E1 cls d H') → (∀ v H', Q .non H' → Q1 v H') → tl E1 H Q1
theorem scAt : FnScope ["_law_ask", "_law_found", "e"] ["_law_ask"] (defScope sAt) := ⟨rfl, rfl, rfl, by decide +kernel, rfl, by decide +kernel, by decide +kernel⟩
theorem look_w {x f : Str} {v : V} : List.lookup ("word" : Str) ([("word", V.str x), (f, v)] : List (Str × V)) = some (V.str x) := by rw [lookup_put, if_pos rfl]
theorem look_f {x f : Str} {v : V} (h : f ≠ "word") : ([("word", V.str x), (f, v)] : List (Str × V)).lookup f = some v := by
  rw [lookup_put, if_neg h, lookup_put, if_pos rfl]
set_option maxHeartbeats 2000000 in
theorem at_gives {X : Cx} {e : Ecs} {g : Addr} {cdg : Value} {q : Str} (G : AtG X.mg e) : GivesTo2 X ["_law_ask", "_law_found", "e"] "_law_at" (defScope sAt) g cdg (defBody sAt) "_law_ask" q (TAt X.K e) := by
  intro f c' s H Q tl act hc h
  refine ⟨_, pss_cons (ps_set (i := 1) scAt.nd rfl (.inl rfl) pe_non)
    (pss_cons (ps_tryM (X := (cxOf C8.CX0 X.prog X.w X.K X.mg X.base ["_law_ask", "_law_found", "e"] "_law_at" (defScope sAt) g cdg X.A X.stack s H C8.E0).nox)
      (tb := fun W D σ H => σ[0]? = some (some (.ref f)) ∧ H c' = some (LamX.CodeO c' q) ∧ tl (fun cls d H' => W cls d σ H') H (fun _ H1 => D.nx σ H1)) (l := [(hd1 e, 2, _), (hd2 e, 2, _), (hd3 e, 2, _)])
      rfl rfl scAt.nd L2.takes0 (fun W pn xe tk _ => ?_)
      (.cons (test_four ⟨rfl, by decide, .inl G.ba⟩ ⟨rfl, by decide, .inl G.bm⟩ ⟨rfl, by decide, .inl G.bt⟩ ⟨rfl, by decide, .inl G.bs⟩) rfl rfl (fun a oe cls d pn hz hf => pss_one (ps_set (i := 1) scAt.nd rfl (.inl rfl) (pe_tup (pa_cons (pe_xfA hz hf (pv 2)) (pa_cons (pe_xfA hz hf (pv 2)) pa_nil)))))
      (.cons (test_three ⟨rfl, by decide, .inl G.sz⟩ ⟨rfl, by decide, .inl G.pt⟩ ⟨rfl, by decide, .inl G.nu⟩) rfl rfl (fun a oe cls d pn hz hf => pss_one (ps_set (i := 1) scAt.nd rfl (.inl rfl) (pe_tup (pa_cons (pe_xfA hz hf (pv 2)) (pa_cons (pe_xfA hz hf (pv 2)) pa_nil)))))
      (.cons (test_one ⟨rfl, by decide, .inl G.tm⟩) rfl rfl (fun a oe cls d pn hz hf => pss_one (ps_set (i := 1) scAt.nd rfl (.inl rfl) (pe_tup (pa_cons (pe_xfA hz hf (pv 2)) (pa_cons (pe_xfA hz hf (pv 2)) pa_nil))))) .nil))))
    (pss_one (ps_ret (pv 1)))), ?_⟩
  · refine ⟨fun pins s' σ H' D I h' => ?_⟩
    obtain ⟨h1, h2, h3⟩ := h'
    exact (pss_one (ps_expr (act W pn xe _ _ tk))).run pins s' σ H' D I ⟨h1, h2, h3⟩
  · refine seq_set ⟨rfl, hc, h _ _ (fun cls d H' wi => ?_) (fun v H' q => ⟨_, rfl, q⟩)⟩
    obtain ⟨C, fI, dd, fl, x, v, rfl, aC, eC, rfl, hd, nw, K1⟩ := wi
    rcases aC with ⟨rfl, h1⟩ | ⟨rfl, h1, h2⟩ | ⟨rfl, h1, h2, h3⟩
    · refine ⟨true, h1, fun _ a na => ?_, (fun z => nomatch z)⟩
      exact ⟨_, rfl, rfl, C, dd, _, _, rfl, eC.xf, eC.nw, rfl, hd, look_w, _, rfl, rfl, C, dd, _, _, rfl, eC.xf, eC.nf, rfl, hd, look_f nw, by show 2 ≤ sizeLine; decide, fun p np => ⟨_, rfl, K1 p np⟩⟩
    · refine ⟨false, h1, (fun z => nomatch z), fun _ => ⟨true, h2, fun _ a na => ?_, (fun z => nomatch z)⟩⟩
      exact ⟨_, rfl, rfl, C, dd, _, _, rfl, eC.xf, eC.nw, rfl, hd, look_w, _, rfl, rfl, C, dd, _, _, rfl, eC.xf, eC.nf, rfl, hd, look_f nw, by show 2 ≤ sizeLine; decide, fun p np => ⟨_, rfl, K1 p np⟩⟩
    · refine ⟨false, h1, (fun z => nomatch z), fun _ => ⟨false, h2, (fun z => nomatch z), fun _ => ⟨true, h3, fun _ a na => ?_, (fun z => nomatch z)⟩⟩⟩
      exact ⟨_, rfl, rfl, C, dd, _, _, rfl, eC.xf, eC.nw, rfl, hd, look_w, _, rfl, rfl, C, dd, _, _, rfl, eC.xf, eC.nf, rfl, hd, look_f nw, by show 2 ≤ sizeLine; decide, fun p np => ⟨_, rfl, K1 p np⟩⟩
end
end Wb
namespace Tm
open PySem PySem.Spec PyProof.Rows L2
/-! ### x *= y -/
def ipM : TIp := fun x y H Q => ∃ i j, x = .int i ∧ y = .int j ∧ (-(2 ^ 64) < j ∧ j < 2 ^ 64) ∧ Q (.int (i * j)) H
theorem ip_mul {X : Cx} : PIp X .Mult ipM := by
  rintro pins s σ H x y v u Q I r1 r2 ⟨i, j, rfl, rfl, hj, q⟩
  obtain ⟨t, rfl⟩ := r1
  obtain ⟨t', rfl⟩ := r2
  exact imul_int ⟨.int _, H, I.tok _, ⟨_, rfl⟩, q⟩ (CMul.ok (.inr hj))
/-! ### a dict comprehension, by a walk -/
theorem dc_it {J : It} {n : Nat} {G : Hp → Prop} {Y : Nat → Hp → V → Hp → Prop} (wk : Walk J n G Y) {g : TG} {tt : TT} {tk tv : TE} {vs : List Nat} {σ : L2.St} {H1 : Hp} {D : Addr} {Qd : Hp → Prop} (Pv : Nat → Hp → Prop) (h0 : Pv 0 (upd H1 D (.dK []))) (hG : ∀ i H, i ≤ n → Pv i H → G H)
    (hs : ∀ i x H H', i < n → Pv i H → Y i H x H' → g x (wipe σ vs) H' fun σ2 H2 => wipe σ2 vs = wipe σ vs ∧ tt σ2 H2 fun b H3 =>
      if b = true then tk σ2 H3 fun y H4 => tv σ2 H4 fun z H5 => ∃ kvs k, y = kV k ∧ H5 D = some (.dK kvs) ∧ kvs.length < sizeLine ∧ Pv (i + 1) (upd H5 D (.dK (putK kvs k z))) else Pv (i + 1) H3) (hd : ∀ H, Pv n H → Qd H) :
    ∃ W : Nat → Nat → Hp → Prop, (∃ m, W 0 m (upd H1 D (.dK []))) ∧ ∀ i m H, W i m H →
      (J.stop i H ∧ Qd H) ∨ (J.go i H ∧ ∃ Nx : Hp → Prop, (∀ H', Nx H' → ∃ m', m' < m ∧ W (i + 1) m' H') ∧ ∀ x H', J.yld i H x H' → g x (wipe σ vs) H' fun σ2 H2 => wipe σ2 vs = wipe σ vs ∧ tt σ2 H2 fun b H3 =>
        if b = true then tk σ2 H3 fun y H4 => tv σ2 H4 fun z H5 => ∃ kvs k, y = kV k ∧ H5 D = some (.dK kvs) ∧ kvs.length < sizeLine ∧ Nx (upd H5 D (.dK (putK kvs k z))) else Nx H3) := by
  refine ⟨fun i m L => m = n - i ∧ i ≤ n ∧ Pv i L, ⟨n, by simp, Nat.zero_le _, h0⟩, ?_⟩
  rintro i m L ⟨rfl, hi, hp⟩
  have hg := hG i L hi hp
  rcases Nat.lt_or_ge i n with hlt | hge
  · exact .inr ⟨wk.goes i L hlt hg, Pv (i + 1), fun L' hp' => ⟨n - (i + 1), by omega, rfl, hlt, hp'⟩, fun x L' hy => hs i x L L' hlt hp (wk.yields i L x L' hlt hg hy)⟩
  · obtain rfl : i = n := by omega
    exact .inl ⟨wk.stops L hg, hd L hp⟩
end Tm
namespace Wb
open PySem PySem.Spec PyProof.Rows L2 RZ Sg Tm
/-- a web and its ties, as they stand -/
structure WX (K : PySem.W.Frag) (C : Addr) (H : Hp) (x : Addr) (n : Int) (As Ms : List TK) : Prop where
  w : WebAt C H x n As Ms
  qa : ∀ z ∈ As, SqT K H z.1 (z.2.map kV)
  qm : ∀ z ∈ Ms, SqT K H z.1 (z.2.map kV)
  ka : ∀ z ∈ As, AK n z.2
  km : ∀ z ∈ Ms, MK n z.2
  la : As.length ≤ 4000
  lm : Ms.length ≤ 4000
  n0 : 0 ≤ n
  n1 : n ≤ 81
theorem WX.same {K : PySem.W.Frag} {C : Addr} {H H' : Hp} {x : Addr} {n : Int} {As Ms : List TK} (s : Same H H') (h : WX K C H x n As Ms) : WX K C H' x n As Ms :=
  { h with w := h.w.same s, qa := fun z hz => same_tup s (h.qa z hz), qm := fun z hz => same_tup s (h.qm z hz) }
abbrev iVs (vs : List Int) : List V := vs.map V.int
/-- a list or tuple of whole numbers -/
def IS (K : PySem.W.Frag) (H : Hp) (l : Addr) (vs : List Int) : Prop := SqL K H l (iVs vs) ∨ SqT K H l (iVs vs)
theorem IS.same {K : PySem.W.Frag} {H H' : Hp} {l : Addr} {vs : List Int} (s : Same H H') (h : IS K H l vs) : IS K H' l vs := h.imp (fun z => s.seq z) fun z => same_tup s z
def img (vs : List Int) (i : Int) : Int := vs.getD i.toNat 0
theorem img_at {vs : List Int} {i : Int} (h0 : 0 ≤ i) (h1 : i < vs.length) : atI (iVs vs) i = some (.int (img vs i)) := by
  have hj : i.toNat < vs.length := by omega
  refine at_of (j := i.toNat) (by omega) ?_
  rw [List.getElem?_map, List.getElem?_eq_getElem hj]
  unfold img
  rw [List.getD_eq_getElem?_getD, List.getElem?_eq_getElem hj]
  rfl
theorem is_ix {K : PySem.W.Frag} {H : Hp} {l : Addr} {vs : List Int} {i : Int} {Q : VK} (h : IS K H l vs) (h0 : 0 ≤ i) (h1 : i < vs.length) (q : Q (.int (img vs i)) H) : rIx K (.ref l) (.int i) H Q :=
  h.elim (fun z => .inl ⟨l, _, i, _, rfl, rfl, z, img_at h0 h1, q⟩) fun z => .inr (.inl ⟨l, _, i, _, rfl, rfl, z, img_at h0 h1, q⟩)
theorem flat_sc {v : V} (h : scV v = true) : flatV v = true := by
  cases v <;> first | rfl | cases h
theorem sc_kV (k : Key) : scV (kV k) = true := by cases k <;> rfl
theorem gat_sc (As : List TK) (k : List Key) : ∀ v ∈ gat As k, scV v = true := fun v hv => by
  obtain ⟨q, _, rfl⟩ := List.mem_map.mp hv
  exact sc_kV _
theorem all_flat {xs : List V} (h : ∀ v ∈ xs, scV v = true) : xs.all flatV = true := List.all_eq_true.mpr fun v hv => flat_sc (h v hv)
def arrOk (As2 : List TK) (vs : List Int) : List Key → Bool
  | [.inr c, .inl s, .inl t] => inV (.int (img vs t)) (gat As2 [.inr c, .inl (img vs s)])
  | _ => false
theorem AK.r3k {n : Int} {k : List Key} (h : AK n k) : ∃ (z : Str) (x y : Int), k = [.inr z, .inl x, .inl y] ∧ 0 ≤ x ∧ x < n ∧ 0 ≤ y ∧ y < n := by
  obtain ⟨c, x, y, e, _, h⟩ := h
  exact ⟨_, x, y, e, h⟩
theorem MK.r2k {n : Int} {k : List Key} (h : MK n k) : ∃ (z : Str) (x : Int), k = [.inr z, .inl x] ∧ 0 ≤ x ∧ x < n := by
  obtain ⟨c, x, e, _, h⟩ := h
  exact ⟨_, x, e, h⟩
theorem all_snoc {α : Type} {f : α → Bool} {L : List α} {i : Nat} (hi : i < L.length) (h : ∀ q ∈ L.take i, f q = true) (hb : f L[i] = true) : ∀ q ∈ L.take (i + 1), f q = true := fun q hq => by
  rw [List.take_add_one, List.getElem?_eq_getElem hi] at hq
  rcases List.mem_append.mp hq with hq | hq
  · exact h q hq
  · rw [List.mem_singleton.mp hq]
    exact hb
theorem all_not {α : Type} {f : α → Bool} {L : List α} {i : Nat} (hi : i < L.length) (hb : f L[i] = false) : L.all f = false := by
  rw [List.all_eq_false]
  exact ⟨L[i], List.getElem_mem hi, by rw [hb]; decide⟩
section
variable {P : Program} {w : World} {K : PySem.W.Frag} {mg : Str → Option Value} {base : Heap}
theorem img_in {is : List Int} {n : Int} {i : Int} (h : ∀ v ∈ is, 0 ≤ v ∧ v < n) (h0 : 0 ≤ i) (h1 : i < is.length) : 0 ≤ img is i ∧ img is i < n := by
  have hj : i.toNat < is.length := by omega
  unfold img
  rw [List.getD_eq_getElem?_getD, List.getElem?_eq_getElem hj]
  exact h _ (List.getElem_mem hj)
/-! ### how many lists -/
def spWays (K : PySem.W.Frag) (C : Addr) : Sp := fun vs H Q _ => ∃ x1 n1 As1 Ms1 x2 n2 As2 Ms2, vs = [.ref x1, .ref x2] ∧ WX K C H x1 n1 As1 Ms1 ∧ WX K C H x2 n2 As2 Ms2 ∧ Q (.int (n2 ^ n1.toNat)) H
end
end Wb
namespace Tm
open PySem PySem.Spec PyProof.Rows L2
/-- a def of the text whose code object is known -/
structure FunC (K : PySem.W.Frag) (x qual : Str) (st : Stmt) (f : Addr) (fd : FuncData) (c : Addr) : Prop where
  ex : ∃ (oc : Value) (od : Option Addr) (kV doc pm : Value) (an : Option Addr) (ct : Value) (osl : Array (Option Value)),
    fd = PySem.W.fnOf x qual (defArgs st) (defBody st) (defScope st) .none kV doc pm an (.ref c) ct ∧ K.lookup f = some ⟨oc, od, .func fd, osl⟩ ∧ PySem.W.codeIn K (.ref c) qual = true
  kp : PySem.W.keepIn K (.ref f) = true
theorem FunC.ok {P : Program} {w : World} {K : PySem.W.Frag} {mg : Str → Option Value} {base : Heap} {x qual : Str} {st : Stmt} {f c : Addr} {fd : FuncData} {N ps : List Str} {k : Nat} {sp : Sp} (F : FunC K x qual st f fd c) (S : FnScope N ps (defScope st)) (len : ∀ vs H Q E, sp vs H Q E → vs.length = ps.length)
    (hbody : ∀ (A : Around) (outer : List Env) (s : Shared) (H : Hp) (vs : List V) (Q : VK) (E : XK), Room k (A.deeper (envOfC qual (defScope st) s.heap.objs.size f (.ref c))) → sp vs H Q E →
      ∃ t, PSs (cxOf CX0 P w K mg base N qual (defScope st) f (.ref c) A outer s H E).nox (defBody st) t ∧ t { nx := fun _ H' => Q .non H', rt := Q } (start N vs) H) : FnOk P w K mg base CX0 (k + 1) f fd ps sp := by
  obtain ⟨oc, od, kV, doc, pm, an, ct, osl, rfl, lk, hcd⟩ := F.ex
  exact fn_of lk hcd S len fun A outer s H vs Q E hr hsp => by
    obtain ⟨t, h1, h2⟩ := hbody A outer s H vs Q E hr hsp
    exact ⟨t, h1.nox, h2⟩
theorem funC_mk {K : PySem.W.Frag} {x qual : Str} {st : Stmt} {f c : Addr} {oc : Value} {od an : Option Addr} {osl : Array (Option Value)} {kV doc pm ct : Value} (l : K.lookup f = some ⟨oc, od, .func (PySem.W.fnOf x qual (defArgs st) (defBody st) (defScope st) .none kV doc pm an (.ref c) ct), osl⟩)
    (h : PySem.W.codeIn K (.ref c) qual = true) (k : PySem.W.keepIn K (.ref f) = true) : FunC K x qual st f (PySem.W.fnOf x qual (defArgs st) (defBody st) (defScope st) .none kV doc pm an (.ref c) ct) c := ⟨⟨oc, od, kV, doc, pm, an, ct, osl, rfl, l, h⟩, k⟩
theorem extN_tup {K : PySem.W.Frag} {H H' : Hp} {p : Addr} {xs : List V} (e : LamX.ExtN H H') (h : SqT K H p xs) : SqT K H' p xs := by
  rcases h with (h | ⟨o, h⟩) | h
  · exact .inl (.inl (e _ _ h (fun _ z => nomatch z)))
  · exact .inl (.inr ⟨o, e _ _ h (fun _ z => nomatch z)⟩)
  · exact .inr h
theorem extN_lst {K : PySem.W.Frag} {H H' : Hp} {p : Addr} {xs : List V} (e : LamX.ExtN H H') (h : SqL K H p xs) : SqL K H' p xs := by
  rcases h with (h | ⟨o, h⟩) | h
  · exact .inl (.inl (e _ _ h (fun _ z => nomatch z)))
  · exact .inl (.inr ⟨o, e _ _ h (fun _ z => nomatch z)⟩)
  · exact .inr h
theorem tabs_but {T : List (Addr × Str)} {H H' : Hp} {b : Addr} {xs : List V} (hb : H b = some (.lst xs)) (x : ∀ c o, c ≠ b → H c = some o → H' c = some o) (t : LamX.Tabs T H) : LamX.Tabs T H' := fun p hp => by
  obtain ⟨ps, h1, h2, h3⟩ := t p hp
  refine ⟨ps, x _ _ (ne_of h1 hb (fun z => nomatch z)) h1, h2, fun pos cv hc => ?_⟩
  obtain ⟨c, e1, e2⟩ := h3 pos cv hc
  exact ⟨c, e1, x _ _ (ne_of e2 hb (fun z => by unfold LamX.CodeO at z; cases z)) e2⟩
theorem op_eqDK {X : Cx} {K : PySem.W.Frag} (hK : X.K = K) (hu : X.A.units + 64 < cLine) : OpR X (compareOp .Eq) (rEqD K) := hK ▸ op_eqD hu
theorem op_neDK {X : Cx} {K : PySem.W.Frag} (hK : X.K = K) (hu : X.A.units + 64 < cLine) : OpR X (compareOp .NotEq) (rNeD K) := hK ▸ op_neD hu
end Tm
namespace Wb
open PySem PySem.Spec PyProof.Rows L2 RZ Sg Tm
theorem bx_extN {H H' : Hp} {b q : Addr} (s : LamX.ExtN H H') (B : Bx H b q) : Bx H' b q := by
  obtain ⟨ns, i, r, k, hb, hq, h⟩ := B
  exact ⟨ns, i, r, k, s _ _ hb (fun _ z => nomatch z), s _ _ hq (fun _ z => nomatch z), h⟩
theorem MW.extN {K : PySem.W.Frag} {H H' : Hp} {p a m : Addr} {n : Int} {As Ms : List TK} (s : LamX.ExtN H H') (h : MW K H p n a m As Ms) : MW K H' p n a m As Ms :=
  { h with tp := s _ _ h.tp (fun _ z => nomatch z), ha := s _ _ h.ha (fun _ z => nomatch z), hm := s _ _ h.hm (fun _ z => nomatch z), qa := fun z hz => extN_tup s (h.qa z hz), qm := fun z hz => extN_tup s (h.qm z hz) }
theorem GX.extN {H H' : Hp} {d : Addr} {f : List Key → List V} (s : LamX.ExtN H H') (g : GX H d f) : GX H' d f := by
  obtain ⟨kvs, e, h1, h2⟩ := g
  refine ⟨kvs, s _ _ e (fun _ z => nomatch z), h1, fun k v hv => ?_⟩
  obtain ⟨q, eq, hq⟩ := h2 k v hv
  exact ⟨q, eq, s _ _ hq (fun _ z => nomatch z)⟩
theorem WebAt.extN {C : Addr} {H H' : Hp} {x : Addr} {n : Int} {As Ms : List TK} (s : LamX.ExtN H H') (w : WebAt C H x n As Ms) : WebAt C H' x n As Ms := by
  obtain ⟨dx, pl, ar, mr, ow, bw, h1, h2, h3, h4, h5, Bs, h6, h7⟩ := w.ex
  exact ⟨dx, pl, ar, mr, ow, bw, s _ _ h1 (fun _ z => nomatch z), s _ _ h2 (fun _ z => nomatch z), s _ _ h3 (fun _ z => nomatch z), s _ _ h4 (fun _ z => nomatch z), h5.extN s, Bs, h6, h7.extN s⟩
theorem tabs_xt {T : List (Addr × Str)} {H H' : Hp} {b q : Addr} (B : Bx H b q) (x : Xt b H H') (t : LamX.Tabs T H) : LamX.Tabs T H' := by
  obtain ⟨xs, hb⟩ := bx_at B
  exact tabs_but hb x t
/-- _law_at(lambda: body) -/
theorem pe_at {X : Cx} {e : Ecs} {T : List (Addr × Str)} {g c PT : Addr} {fd : FuncData} {k : Nat} {params : Arguments} {body : Expr} {scope : Scope} {t : XK → TE} {p lpos pos : Pos} (F : Fun X.K "_law_at" "_law_at" sAt g fd) (hm : X.mg "_law_at" = some (.ref g)) (hb : Binds X.K fd ["_law_ask"] []) (G : AtG X.mg e) (hg : Gl X "_law_at") (TB : LamX.TabB X.base X.mg c PT) (hcode : X.env.code = .ref c) (hmT : (PT, X.env.qual ++ "<lambda>") ∈ T)
    (hu : ∀ p ∈ T, p.1 = PT → p.2 = X.env.qual ++ "<lambda>") (hr : Room (k + 2) X.A) (L : LamX.LamS X.env.scope scope) (hdef : defaultsOf params X.env = ([], [])) (hbind : ∀ (q : Str) (cl : List (Str × Addr)) (pm cv ctv : Value), bindArgs (PySem.W.kla_fn "<lambda>" q params body scope cl pm cv ctv) ⟨[], []⟩ = pure [])
    (hbody : ∀ (A : Around) (outer : List Env) (s : Shared) (H : Hp) (E : XK) (f c' : Addr), Room k (A.deeper (LamX.lamEnv X scope s.heap.objs.size f c')) → PE (LamX.lamCx X A outer s H E scope f c') body (t E)) :
    PE X (.Call (.Name "_law_at" p) [.Lambda params body scope lpos] [] pos) (LamX.tLam T (TAt X.K e) t) := by
  obtain ⟨oc, od, kV, doc, pm, an, cdv, ct, osl, rfl, lk, hcd⟩ := F.ex
  exact pe_lamcall2 hg hm F.kp lk hcd hb scAt rfl (.inl rfl) (at_gives G) TB hcode hmT hu hr L hdef hbind hbody
end Wb
/-! Values as data: what a reading gives, without the heap. -/
namespace Dv
open PySem PySem.Spec PyProof.Rows L2
abbrev Ks := List Key
inductive D where
  | non | bl (b : Bool) | int (i : Int) | str (x : Str) | lst (l : List D) | tup (l : List D) | web (n : Int) (As Ms : List Ks) | dk (kvs : List (Key × D)) | dt (kvs : List (Ks × D)) | box
abbrev Env := List (Option D)
def Sub (H H' : Hp) : Prop := ∀ a o, H a = some o → H' a = some o
theorem Sub.refl (H : Hp) : Sub H H := fun _ _ h => h
theorem Sub.trans {H H1 H2 : Hp} (a : Sub H H1) (b : Sub H1 H2) : Sub H H2 := fun x o h => b x o (a x o h)
theorem Sub.free {H H' : Hp} {a : Addr} (s : Sub H H') (h : H' a = none) : H a = none := by
  cases e : H a with
  | none => rfl
  | some o => rw [s a o e] at h; cases h
theorem sub_new {H : Hp} {p : Addr} {o : HO} (h : H p = none) : Sub H (upd H p o) := fun a u e => by
  rw [upd_ne (ne_of_none e h)]
  exact e
theorem sub_tup {K : PySem.W.Frag} {H H' : Hp} {a : Addr} {xs : List V} (s : Sub H H') (h : SqT K H a xs) : SqT K H' a xs := by
  rcases h with (h | ⟨o, h⟩) | h
  · exact .inl (.inl (s _ _ h))
  · exact .inl (.inr ⟨o, s _ _ h⟩)
  · exact .inr h
/-- the program's webs: how one is told from the heap -/
structure Base where
  K : PySem.W.Frag
  C : Addr
  T : List (Addr × Str)
  cls : Str → Addr
  W : Hp → Addr → Int → List Ks → List Ks → Prop
  mono : ∀ {H H' x n As Ms}, Sub H H' → W H x n As Ms → W H' x n As Ms
  ins : ∀ {H x n As Ms}, W H x n As Ms → ∃ dx fs, H x = some (.ins C dx fs) ∧ ∀ m : Str, m ∉ (["places", "arrow_rows", "mark_rows", "onward", "backward"] : List Str) → fs.lookup m = none
/-- the drawing box (its address, the script's); the tables of code that lambdas are taken from -/
structure Bo (S : Base) where
  bq : Option (Addr × Addr)
def plainO : HO → Bool
  | .lst _ => true
  | .dK _ => true
  | .dT _ => true
  | _ => false
theorem plainO.nt {o : HO} (h : plainO o = true) : ∀ ps, o ≠ .tbl ps := fun ps z => by subst z; cases h
theorem tabs_upd {T : List (Addr × Str)} {H : Hp} {a : Addr} {u : HO} (t : LamX.Tabs T H) (h : ∀ o, H a = some o → plainO o = true) : LamX.Tabs T (upd H a u) := fun p hp => by
  obtain ⟨ps, h1, h2, h3⟩ := t p hp
  have e : ∀ {c o}, H c = some o → plainO o = false → c ≠ a := fun {c o} e n z => by
    subst z
    rw [h o e] at n; cases n
  refine ⟨ps, by rw [upd_ne (e h1 rfl)]; exact h1, h2, fun pos cv hc => ?_⟩
  obtain ⟨c, e1, e2⟩ := h3 pos cv hc
  exact ⟨c, e1, by rw [upd_ne (e e2 rfl)]; exact e2⟩
theorem tabs_sub {T : List (Addr × Str)} {H H' : Hp} (s : ∀ a o, H a = some o → H' a = some o) (t : LamX.Tabs T H) : LamX.Tabs T H' := fun p hp => (t p hp).ext s
/-- the box is well: the script, how far it is read, two numbers -/
def BxAt (H : Hp) (b q : Addr) : Prop := ∃ (ns : List Int) (i r k : Int), H b = some (.lst [.ref q, .int i, .int r, .int k]) ∧ H q = some (.lst (ns.map V.int)) ∧ 0 ≤ i ∧ 0 ≤ r ∧ 0 ≤ k ∧ k < 2147483563
variable {S : Base} {B : Bo S}
mutual
inductive Rp (S : Base) (B : Bo S) (G : Hp) : V → D → Prop
  | non : Rp S B G .non .non
  | bl (b : Bool) : Rp S B G (.bl b) (.bl b)
  | int (i : Int) : Rp S B G (.int i) (.int i)
  | str (x : Str) : Rp S B G (.str x) (.str x)
  | lst {a : Addr} {xs : List V} {ds : List D} : G a = some (.lst xs) → RpA S B G xs ds → Rp S B G (.ref a) (.lst ds)
  | tup {a : Addr} {xs : List V} {ds : List D} : SqT S.K G a xs → RpA S B G xs ds → Rp S B G (.ref a) (.tup ds)
  | web {a : Addr} {n : Int} {As Ms : List Ks} : S.W G a n As Ms → Rp S B G (.ref a) (.web n As Ms)
  | dk {a : Addr} {kvs : List (Key × V)} {es : List (Key × D)} : G a = some (.dK kvs) → kvs.map (·.1) = es.map (·.1) → RpA S B G (kvs.map (·.2)) (es.map (·.2)) → Rp S B G (.ref a) (.dk es)
  | dt {a : Addr} {kvs : List (Ks × V)} {es : List (Ks × D)} : G a = some (.dT kvs) → kvs.map (·.1) = es.map (·.1) → RpA S B G (kvs.map (·.2)) (es.map (·.2)) → Rp S B G (.ref a) (.dt es)
  | box {b q : Addr} : B.bq = some (b, q) → Rp S B G (.ref b) .box
inductive RpA (S : Base) (B : Bo S) (G : Hp) : List V → List D → Prop
  | nil : RpA S B G [] []
  | cons {v : V} {vs : List V} {d : D} {ds : List D} : Rp S B G v d → RpA S B G vs ds → RpA S B G (v :: vs) (d :: ds)
end
mutual
theorem Rp.mono {G G' : Hp} (s : Sub G G') : ∀ {v : V} {d : D}, Rp S B G v d → Rp S B G' v d
  | _, _, .non => .non
  | _, _, .bl b => .bl b
  | _, _, .int i => .int i
  | _, _, .str x => .str x
  | _, _, .lst h r => .lst (s _ _ h) (RpA.mono s r)
  | _, _, .tup h r => .tup (sub_tup s h) (RpA.mono s r)
  | _, _, .web h => .web (S.mono s h)
  | _, _, .dk h e r => .dk (s _ _ h) e (RpA.mono s r)
  | _, _, .dt h e r => .dt (s _ _ h) e (RpA.mono s r)
  | _, _, .box h => .box h
theorem RpA.mono {G G' : Hp} (s : Sub G G') : ∀ {vs : List V} {ds : List D}, RpA S B G vs ds → RpA S B G' vs ds
  | _, _, .nil => .nil
  | _, _, .cons h r => .cons (Rp.mono s h) (RpA.mono s r)
end
theorem RpA.length {G : Hp} : ∀ {vs : List V} {ds : List D}, RpA S B G vs ds → vs.length = ds.length
  | _, _, .nil => rfl
  | _, _, .cons _ r => congrArg (· + 1) (RpA.length r)
theorem RpA.get {G : Hp} : ∀ {vs : List V} {ds : List D}, RpA S B G vs ds → ∀ {i : Nat} {d : D}, ds[i]? = some d → ∃ v, vs[i]? = some v ∧ Rp S B G v d
  | _, _, .nil, i, d, h => by simp at h
  | _, _, .cons h r, 0, d, e => by simp at e; subst e; exact ⟨_, rfl, h⟩
  | _, _, .cons h r, i + 1, d, e => by
    obtain ⟨v, h1, h2⟩ := RpA.get r (i := i) (d := d) (by simpa using e)
    exact ⟨v, by simpa using h1, h2⟩
theorem RpA.getV {G : Hp} {vs : List V} {ds : List D} (r : RpA S B G vs ds) {i : Nat} {v : V} (h : vs[i]? = some v) : ∃ d, ds[i]? = some d ∧ Rp S B G v d := by
  have hl := r.length
  have hi := (List.getElem?_eq_some_iff.mp h).1
  obtain ⟨u, h1, h2⟩ := r.get (i := i) (d := ds[i]'(by omega)) (List.getElem?_eq_getElem _)
  rw [h] at h1
  cases h1
  exact ⟨_, List.getElem?_eq_getElem _, h2⟩
theorem RpA.append {G : Hp} : ∀ {vs us : List V} {ds es : List D}, RpA S B G vs ds → RpA S B G us es → RpA S B G (vs ++ us) (ds ++ es)
  | _, _, _, _, .nil, s => s
  | _, _, _, _, .cons h r, s => .cons h (RpA.append r s)
theorem RpA.take {G : Hp} : ∀ {vs : List V} {ds : List D} (n : Nat), RpA S B G vs ds → RpA S B G (vs.take n) (ds.take n)
  | _, _, 0, _ => .nil
  | _, _, _ + 1, .nil => .nil
  | _, _, n + 1, .cons h r => .cons h (RpA.take n r)
theorem RpA.drop {G : Hp} : ∀ {vs : List V} {ds : List D} (n : Nat), RpA S B G vs ds → RpA S B G (vs.drop n) (ds.drop n)
  | _, _, 0, r => r
  | _, _, _ + 1, .nil => .nil
  | _, _, n + 1, .cons _ r => RpA.drop n r
theorem RpA.set {G : Hp} {v : V} {d : D} (h : Rp S B G v d) : ∀ {vs : List V} {ds : List D} (n : Nat), RpA S B G vs ds → RpA S B G (vs.set n v) (ds.set n d)
  | _, _, _, .nil => .nil
  | _, _, 0, .cons _ r => .cons h r
  | _, _, n + 1, .cons q r => .cons q (RpA.set h n r)
theorem RpA.ints {G : Hp} : ∀ is : List Int, RpA S B G (is.map V.int) (is.map D.int)
  | [] => .nil
  | i :: is => .cons (.int i) (RpA.ints is)
/-! ### the state -/
/-- H: what is tracked; G: the part of it that stays as it is -/
structure Ok {S : Base} (B : Bo S) (H G : Hp) : Prop where
  sub : Sub G H
  nm : ∀ b q, B.bq = some (b, q) → G b = none
  bx : ∀ b q, B.bq = some (b, q) → BxAt H b q
  tb : LamX.Tabs S.T H
  nt : ∀ a ps, G a ≠ some (.tbl ps)
/-- nothing stands there that is known to stay (at most a table) -/
def FrA (H : Hp) (a : Addr) : Prop := ∀ o, H a = some o → ∃ ps, o = .tbl ps
theorem FrA.of {H : Hp} {a : Addr} (h : H a = none) : FrA H a := fun o e => by rw [h] at e; cases e
theorem FrA.ne {H : Hp} {a b : Addr} {o : HO} (h : FrA H a) (hb : H b = some o) (n : ∀ ps, o ≠ .tbl ps) : b ≠ a := fun z => by
  subst z
  obtain ⟨ps, e⟩ := h o hb
  exact n ps e
theorem FrA.sub {H H' : Hp} {a : Addr} (s : Sub H H') (h : FrA H' a) : FrA H a := fun o e => h o (s a o e)
theorem FrA.upd {H : Hp} {a p : Addr} {o : HO} (hp : FrA H p) (h : FrA (L2.upd H p o) a) : FrA H a := by
  by_cases z : a = p
  · subst z; exact hp
  · exact fun u e => h u (by rw [upd_ne z]; exact e)
structure Ch {S : Base} (B : Bo S) (H G H' G' : Hp) : Prop where
  ch : ∀ a o, (∀ q, B.bq ≠ some (a, q)) → (∀ ps, o ≠ .tbl ps) → H a = some o → H' a = some o
  fr : ∀ a, FrA H' a → FrA H a
  ext : Sub G G'
  new : ∀ a o, G' a = some o → G a = some o ∨ FrA H a
theorem Ch.refl {H G : Hp} : Ch B H G H G := ⟨fun _ _ _ _ h => h, fun _ h => h, Sub.refl G, fun _ _ h => .inl h⟩
theorem Ch.trans {H G H1 G1 H2 G2 : Hp} (a : Ch B H G H1 G1) (b : Ch B H1 G1 H2 G2) : Ch B H G H2 G2 :=
  ⟨fun x o n z h => b.ch x o n z (a.ch x o n z h), fun x h => a.fr x (b.fr x h), a.ext.trans b.ext, fun x o h => (b.new x o h).elim (a.new x o) fun z => .inr (a.fr x z)⟩
theorem BxAt.sub {H H' : Hp} {b q : Addr} (s : Sub H H') (h : BxAt H b q) : BxAt H' b q := by
  obtain ⟨ns, i, r, k, h1, h2, h3, h4⟩ := h
  exact ⟨ns, i, r, k, s _ _ h1, s _ _ h2, h3, h4⟩
theorem BxAt.some {H : Hp} {b q : Addr} (h : BxAt H b q) : ∃ o, H b = some o := by
  obtain ⟨ns, i, r, k, h1, _⟩ := h
  exact ⟨_, h1⟩
theorem Ok.ne {H G : Hp} (k : Ok B H G) {p b q : Addr} (e : B.bq = some (b, q)) (h : FrA H p) : b ≠ p := by
  obtain ⟨ns, i, r, kk, ho, _⟩ := k.bx b q e
  exact h.ne ho (fun _ z => nomatch z)
/-- a new object that stays as it is -/
theorem Ok.put {H G : Hp} (k : Ok B H G) {p : Addr} (h : H p = none) (o : HO) (nt : ∀ ps, o ≠ .tbl ps) : Ok B (upd H p o) (upd G p o) ∧ Ch B H G (upd H p o) (upd G p o) := by
  refine ⟨⟨fun a u e => ?_, fun b q e => ?_, fun b q e => (k.bx b q e).sub (sub_new h), tabs_sub (sub_new h) k.tb, fun a ps e => ?_⟩, ⟨fun a u _ _ e => sub_new h a u e, fun a e => FrA.upd (FrA.of h) e, sub_new (k.sub.free h), fun a u e => ?_⟩⟩
  · by_cases z : a = p
    · subst z; rw [upd_same] at e ⊢; exact e
    · rw [upd_ne z] at e ⊢; exact k.sub a u e
  · rw [upd_ne (k.ne e (FrA.of h))]
    exact k.nm b q e
  · by_cases z : a = p
    · subst z; rw [upd_same] at e; exact nt ps (Option.some.inj e)
    · rw [upd_ne z] at e; exact k.nt a ps e
  · by_cases z : a = p
    · subst z; exact .inr (FrA.of h)
    · rw [upd_ne z] at e; exact .inl e
/-- a new object that may be changed -/
theorem Ok.lay {H G : Hp} (k : Ok B H G) {p : Addr} (h : H p = none) (o : HO) : Ok B (upd H p o) G ∧ Ch B H G (upd H p o) G :=
  ⟨⟨k.sub.trans (sub_new h), k.nm, fun b q e => (k.bx b q e).sub (sub_new h), tabs_sub (sub_new h) k.tb, k.nt⟩, ⟨fun a u _ _ e => sub_new h a u e, fun a e => FrA.upd (FrA.of h) e, Sub.refl G, fun _ _ e => .inl e⟩⟩
structure Er (S : Base) (B : Bo S) (G : Hp) (σ : L2.St) (ρ : Env) : Prop where
  len : ρ.length = σ.length
  get : ∀ (i : Nat) (d : D), ρ[i]? = some (some d) → ∃ v, σ[i]? = some (some v) ∧ Rp S B G v d
theorem Er.mono {G G' : Hp} {σ : L2.St} {ρ : Env} (s : Sub G G') (h : Er S B G σ ρ) : Er S B G' σ ρ := ⟨h.len, fun i d e => by
  obtain ⟨v, h1, h2⟩ := h.get i d e
  exact ⟨v, h1, h2.mono s⟩⟩
/-! ### what may come out -/
structure M (α : Type) where
  run : (α → Prop) → Prop
  mono : ∀ {P Q : α → Prop}, (∀ a, P a → Q a) → run P → run Q
namespace M
variable {α β : Type}
def ret (a : α) : M α := ⟨fun Q => Q a, fun h p => h a p⟩
def fail : M α := ⟨fun _ => False, fun _ p => p⟩
def bnd (m : M α) (f : α → M β) : M β := ⟨fun Q => m.run fun a => (f a).run Q, fun h p => m.mono (fun a q => (f a).mono h q) p⟩
def req (p : Prop) : M Unit := ⟨fun Q => p ∧ Q (), fun h q => ⟨q.1, h _ q.2⟩⟩
def all (p : α → Prop) : M α := ⟨fun Q => ∀ a, p a → Q a, fun h q a pa => h a (q a pa)⟩
def opt : Option α → M α
  | some a => ret a
  | none => fail
def mapL (f : α → M β) : List α → M (List β)
  | [] => ret []
  | a :: l => bnd (f a) fun b => bnd (mapL f l) fun bs => ret (b :: bs)
/-- what some give: a test and a value -/
def sel (f : α → M (Option β)) : List α → M (List β)
  | [] => ret []
  | a :: l => bnd (f a) fun b => bnd (sel f l) fun bs => ret (match b with | some x => x :: bs | none => bs)
end M
/-! ### the judgements -/
def Rs1 (S : Base) (B : Bo S) (H G : Hp) (Q : VK) (d : D) : Prop := ∀ v H' G', Ok B H' G' → Ch B H G H' G' → Rp S B G' v d → Q v H'
def EvD (S : Base) (te : TE) (m : Env → M D) : Prop := ∀ B σ H G ρ Q, Ok B H G → Er S B G σ ρ → (m ρ).run (Rs1 S B H G Q) → te σ H Q
/-- a new list that may be changed -/
def Rs2 (S : Base) (B : Bo S) (H G : Hp) (Q : VK) (ds : List D) : Prop := ∀ p xs H' G', FrA H p → Ok B H' G' → Ch B H G H' G' → H' p = some (.lst xs) → G' p = none → RpA S B G' xs ds → Q (.ref p) H'
def EvL (S : Base) (te : TE) (m : Env → M (List D)) : Prop := ∀ B σ H G ρ Q, Ok B H G → Er S B G σ ρ → (m ρ).run (Rs2 S B H G Q) → te σ H Q
def EvT (S : Base) (tt : TT) (m : Env → M Bool) : Prop := ∀ B σ H G ρ Q, Ok B H G → Er S B G σ ρ → (m ρ).run (fun b => ∀ H' G', Ok B H' G' → Ch B H G H' G' → Q b H') → tt σ H Q
def EvA (S : Base) (ta : TA) (m : Env → M (List D)) : Prop := ∀ B σ H G ρ Q, Ok B H G → Er S B G σ ρ → (m ρ).run (fun ds => ∀ vs H' G', Ok B H' G' → Ch B H G H' G' → RpA S B G' vs ds → Q vs H') → ta σ H Q
def EvO (S : Base) (to : TO) (m : Env → M (Option Int)) : Prop := ∀ B σ H G ρ Q, Ok B H G → Er S B G σ ρ → (m ρ).run (fun o => ∀ H' G', Ok B H' G' → Ch B H G H' G' → Q o H') → to σ H Q
/-- an operation of two values -/
def R2D (S : Base) (r : R2) (f : D → D → M D) : Prop := ∀ B H G x y d e Q, Ok B H G → Rp S B G x d → Rp S B G y e → (f d e).run (Rs1 S B H G Q) → r x y H Q
def R2L (S : Base) (r : R2) (f : D → D → M (List D)) : Prop := ∀ B H G x y d e Q, Ok B H G → Rp S B G x d → Rp S B G y e → (f d e).run (Rs2 S B H G Q) → r x y H Q
def R1D (S : Base) (r : V → Hp → VK → Prop) (f : D → M D) : Prop := ∀ B H G x d Q, Ok B H G → Rp S B G x d → (f d).run (Rs1 S B H G Q) → r x H Q
def RCD (S : Base) (r : List V → Hp → VK → Prop) (f : List D → M D) : Prop := ∀ B H G vs ds Q, Ok B H G → RpA S B G vs ds → (f ds).run (Rs1 S B H G Q) → r vs H Q
def RCL (S : Base) (r : List V → Hp → VK → Prop) (f : List D → M (List D)) : Prop := ∀ B H G vs ds Q, Ok B H G → RpA S B G vs ds → (f ds).run (Rs2 S B H G Q) → r vs H Q
theorem Rs1.now {H G : Hp} {Q : VK} {d : D} {v : V} (k : Ok B H G) (h : Rs1 S B H G Q d) (r : Rp S B G v d) : Q v H := h v H G k Ch.refl r
theorem Rs1.after {H G H1 G1 : Hp} {Q : VK} {d : D} (c : Ch B H G H1 G1) (h : Rs1 S B H G Q d) : Rs1 S B H1 G1 Q d := fun v H' G' k c' r => h v H' G' k (c.trans c') r
theorem Rs2.after {H G H1 G1 : Hp} {Q : VK} {ds : List D} (c : Ch B H G H1 G1) (h : Rs2 S B H G Q ds) : Rs2 S B H1 G1 Q ds := fun p xs H' G' n k c' h1 h2 r => h p xs H' G' (c.fr p n) k (c.trans c') h1 h2 r
/-- a new list stays as it is -/
theorem Rs1.frz {H G : Hp} {Q : VK} {ds : List D} (k0 : Ok B H G) (h : Rs1 S B H G Q (.lst ds)) : Rs2 S B H G Q ds := fun p xs H' G' n k c h1 h2 r => by
  have hs : Sub G' (upd G' p (.lst xs)) := sub_new h2
  refine h (.ref p) H' (upd G' p (.lst xs)) ⟨fun a u e => ?_, fun b q e => ?_, k.bx, k.tb, fun a ps e => ?_⟩ ⟨c.ch, c.fr, c.ext.trans hs, fun a u e => ?_⟩ (.lst upd_same (r.mono hs))
  · by_cases z : a = p
    · subst z; rw [upd_same] at e; rw [h1]; exact e
    · rw [upd_ne z] at e; exact k.sub a u e
  · rw [upd_ne (k0.ne e n)]; exact k.nm b q e
  · by_cases z : a = p
    · subst z; rw [upd_same] at e; cases e
    · rw [upd_ne z] at e; exact k.nt a ps e
  · by_cases z : a = p
    · subst z; exact .inr n
    · rw [upd_ne z] at e; exact c.new a u e
end Dv
namespace Dv
open PySem PySem.Spec PyProof.Rows L2
variable {S : Base} {B : Bo S}
def dOf : V → Option D
  | .non => some .non
  | .bl b => some (.bl b)
  | .int i => some (.int i)
  | .str x => some (.str x)
  | _ => none
theorem rp_dOf {G : Hp} {v : V} {d : D} (h : dOf v = some d) : Rp S B G v d := by
  cases v <;> simp only [dOf, Option.some.injEq, reduceCtorEq] at h <;> subst h
  · exact .non
  · exact .bl _
  · exact .int _
  · exact .str _
def vOf : D → Option V
  | .non => some .non
  | .bl b => some (.bl b)
  | .int i => some (.int i)
  | .str x => some (.str x)
  | _ => none
theorem rp_vOf {G : Hp} {v u : V} {d : D} (h : vOf d = some v) (r : Rp S B G u d) : u = v := by
  cases r <;> simp only [vOf, Option.some.injEq, reduceCtorEq] at h <;> exact h
theorem M.run_opt {α : Type} {o : Option α} {Q : α → Prop} (h : (M.opt o).run Q) : ∃ a, o = some a ∧ Q a := by
  cases o with
  | none => exact h.elim
  | some a => exact ⟨a, rfl, h⟩
section
variable {ta tb te : TE} {ma mb me : Env → M D} {tt t u : TT} {mt mu : Env → M Bool} {r : R2}
theorem ed_var {i : Nat} : EvD S (tVar i) (fun ρ => M.opt (ρ[i]?.join)) := fun B σ H G ρ Q k er h => by
  obtain ⟨d, e, q⟩ := M.run_opt h
  have e' : ρ[i]? = some (some d) := by
    cases h1 : ρ[i]? with
    | none => rw [h1] at e; cases e
    | some o => rw [h1] at e; rw [show o = some d from e]
  obtain ⟨v, h1, h2⟩ := er.get i d e'
  exact ⟨v, h1, q.now k h2⟩
theorem ed_c {v : V} : EvD S (tC v) (fun _ => M.opt (dOf v)) := fun B σ H G ρ Q k er h => by
  obtain ⟨d, e, q⟩ := M.run_opt h
  exact q.now k (rp_dOf e)
theorem ed_op {f : D → D → M D} (hr : R2D S r f) (ha : EvD S ta ma) (hb : EvD S tb mb) : EvD S (tOp r ta tb) (fun ρ => M.bnd (ma ρ) fun x => M.bnd (mb ρ) fun y => f x y) := fun B σ H G ρ Q k er h =>
  ha B σ H G ρ _ k er ((ma ρ).mono (fun d hd v H1 G1 k1 c1 r1 => hb B σ H1 G1 ρ _ k1 (er.mono c1.ext) ((mb ρ).mono (fun e he v2 H2 G2 k2 c2 r2 => hr B H2 G2 v v2 d e Q k2 (r1.mono c2.ext) r2 ((f d e).mono (fun z hz => hz.after (c1.trans c2)) he)) hd)) h)
theorem el_op {f : D → D → M (List D)} (hr : R2L S r f) (ha : EvD S ta ma) (hb : EvD S tb mb) : EvL S (tOp r ta tb) (fun ρ => M.bnd (ma ρ) fun x => M.bnd (mb ρ) fun y => f x y) := fun B σ H G ρ Q k er h =>
  ha B σ H G ρ _ k er ((ma ρ).mono (fun d hd v H1 G1 k1 c1 r1 => hb B σ H1 G1 ρ _ k1 (er.mono c1.ext) ((mb ρ).mono (fun e he v2 H2 G2 k2 c2 r2 => hr B H2 G2 v v2 d e Q k2 (r1.mono c2.ext) r2 ((f d e).mono (fun z hz => hz.after (c1.trans c2)) he)) hd)) h)
theorem ed_un {r : V → Hp → VK → Prop} {f : D → M D} (hr : R1D S r f) (ha : EvD S ta ma) : EvD S (tUn r ta) (fun ρ => M.bnd (ma ρ) f) := fun B σ H G ρ Q k er h =>
  ha B σ H G ρ _ k er ((ma ρ).mono (fun d hd v H1 G1 k1 c1 r1 => hr B H1 G1 v d Q k1 r1 ((f d).mono (fun z hz => hz.after c1) hd)) h)
theorem EvL.d {m : Env → M (List D)} (h : EvL S te m) : EvD S te (fun ρ => M.bnd (m ρ) fun ds => M.ret (.lst ds)) := fun B σ H G ρ Q k er q =>
  h B σ H G ρ Q k er ((m ρ).mono (fun ds hd => Rs1.frz k hd) q)
theorem ed_if (ht : EvT S t mt) (ha : EvD S ta ma) (hb : EvD S tb mb) : EvD S (tIf t ta tb) (fun ρ => M.bnd (mt ρ) fun b => if b = true then ma ρ else mb ρ) := fun B σ H G ρ Q k er h =>
  ht B σ H G ρ _ k er ((mt ρ).mono (fun b hb' H1 G1 k1 c1 => by
    cases b with
    | true => exact ha B σ H1 G1 ρ Q k1 (er.mono c1.ext) ((ma ρ).mono (fun z hz => hz.after c1) hb')
    | false => exact hb B σ H1 G1 ρ Q k1 (er.mono c1.ext) ((mb ρ).mono (fun z hz => hz.after c1) hb')) h)
theorem el_if {ma mb : Env → M (List D)} (ht : EvT S t mt) (ha : EvL S ta ma) (hb : EvL S tb mb) : EvL S (tIf t ta tb) (fun ρ => M.bnd (mt ρ) fun b => if b = true then ma ρ else mb ρ) := fun B σ H G ρ Q k er h =>
  ht B σ H G ρ _ k er ((mt ρ).mono (fun b hb' H1 G1 k1 c1 => by
    cases b with
    | true => exact ha B σ H1 G1 ρ Q k1 (er.mono c1.ext) ((ma ρ).mono (fun z hz => hz.after c1) hb')
    | false => exact hb B σ H1 G1 ρ Q k1 (er.mono c1.ext) ((mb ρ).mono (fun z hz => hz.after c1) hb')) h)
/-! tests -/
def asB : D → M Bool
  | .bl b => M.ret b
  | _ => M.fail
theorem asB_run {d : D} {Q : Bool → Prop} (h : (asB d).run Q) : ∃ b, d = .bl b ∧ Q b := by
  cases d <;> first | exact ⟨_, rfl, h⟩ | exact h.elim
theorem et_test (h : EvD S te me) : EvT S (tTest te) (fun ρ => M.bnd (me ρ) asB) := fun B σ H G ρ Q k er q =>
  h B σ H G ρ _ k er ((me ρ).mono (fun d hd v H1 G1 k1 c1 r1 => by
    obtain ⟨b, rfl, hb⟩ := asB_run hd
    cases r1
    exact ⟨b, rfl, hb H1 G1 k1 c1⟩) q)
theorem et_B (h : EvD S te me) : EvT S (tB te) (fun ρ => M.bnd (me ρ) asB) := fun B σ H G ρ Q k er q =>
  h B σ H G ρ _ k er ((me ρ).mono (fun d hd v H1 G1 k1 c1 r1 => by
    obtain ⟨b, rfl, hb⟩ := asB_run hd
    cases r1
    exact ⟨b, rfl, hb H1 G1 k1 c1⟩) q)
theorem et_and (h1 : EvT S t mt) (h2 : EvT S u mu) : EvT S (tAnd t u) (fun ρ => M.bnd (mt ρ) fun b => if b = true then mu ρ else M.ret false) := fun B σ H G ρ Q k er h =>
  h1 B σ H G ρ _ k er ((mt ρ).mono (fun b hb H1 G1 k1 c1 => by
    cases b with
    | true => exact h2 B σ H1 G1 ρ Q k1 (er.mono c1.ext) ((mu ρ).mono (fun z hz H2 G2 k2 c2 => hz H2 G2 k2 (c1.trans c2)) hb)
    | false => exact hb H1 G1 k1 c1) h)
theorem et_or (h1 : EvT S t mt) (h2 : EvT S u mu) : EvT S (tOr t u) (fun ρ => M.bnd (mt ρ) fun b => if b = true then M.ret true else mu ρ) := fun B σ H G ρ Q k er h =>
  h1 B σ H G ρ _ k er ((mt ρ).mono (fun b hb H1 G1 k1 c1 => by
    cases b with
    | true => exact hb H1 G1 k1 c1
    | false => exact h2 B σ H1 G1 ρ Q k1 (er.mono c1.ext) ((mu ρ).mono (fun z hz H2 G2 k2 c2 => hz H2 G2 k2 (c1.trans c2)) hb)) h)
theorem et_not (h1 : EvT S t mt) : EvT S (tNot t) (fun ρ => M.bnd (mt ρ) fun b => M.ret (!b)) := fun B σ H G ρ Q k er h =>
  h1 B σ H G ρ _ k er ((mt ρ).mono (fun b hb H1 G1 k1 c1 => hb H1 G1 k1 c1) h)
theorem et_yes : EvT S tYes (fun _ => M.ret true) := fun B σ H G ρ Q k er h => h H G k Ch.refl
theorem ed_andV (ha : EvD S ta ma) (hb : EvD S tb mb) : EvD S (tAndV ta tb) (fun ρ => M.bnd (ma ρ) fun x => M.bnd (asB x) fun b => if b = true then mb ρ else M.ret (.bl false)) := fun B σ H G ρ Q k er h =>
  ha B σ H G ρ _ k er ((ma ρ).mono (fun d hd v H1 G1 k1 c1 r1 => by
    obtain ⟨b, rfl, hb'⟩ := asB_run hd
    cases r1
    refine ⟨b, rfl, ?_⟩
    cases b with
    | true => exact hb B σ H1 G1 ρ Q k1 (er.mono c1.ext) ((mb ρ).mono (fun z hz => hz.after c1) hb')
    | false => exact (show Rs1 S B H G Q (.bl false) from hb') _ H1 G1 k1 c1 (.bl false)) h)
theorem ed_orV (ha : EvD S ta ma) (hb : EvD S tb mb) : EvD S (tOrV ta tb) (fun ρ => M.bnd (ma ρ) fun x => M.bnd (asB x) fun b => if b = true then M.ret (.bl true) else mb ρ) := fun B σ H G ρ Q k er h =>
  ha B σ H G ρ _ k er ((ma ρ).mono (fun d hd v H1 G1 k1 c1 r1 => by
    obtain ⟨b, rfl, hb'⟩ := asB_run hd
    cases r1
    refine ⟨b, rfl, ?_⟩
    cases b with
    | false => exact hb B σ H1 G1 ρ Q k1 (er.mono c1.ext) ((mb ρ).mono (fun z hz => hz.after c1) hb')
    | true => exact (show Rs1 S B H G Q (.bl true) from hb') _ H1 G1 k1 c1 (.bl true)) h)
/-! arguments, displays -/
theorem ea_nil : EvA S tNil (fun _ => M.ret []) := fun B σ H G ρ Q k er h => h [] H G k Ch.refl .nil
theorem ea_cons {tr : TA} {mr : Env → M (List D)} (ha : EvD S ta ma) (hr : EvA S tr mr) : EvA S (tCons ta tr) (fun ρ => M.bnd (ma ρ) fun x => M.bnd (mr ρ) fun l => M.ret (x :: l)) := fun B σ H G ρ Q k er h =>
  ha B σ H G ρ _ k er ((ma ρ).mono (fun d hd v H1 G1 k1 c1 r1 => hr B σ H1 G1 ρ _ k1 (er.mono c1.ext) ((mr ρ).mono (fun l hl vs H2 G2 k2 c2 r2 => hl (v :: vs) H2 G2 k2 (c1.trans c2) (.cons (r1.mono c2.ext) r2)) hd)) h)
theorem small {n : Nat} (h : n ≤ 100000) : n ≤ sizeLine := Nat.le_trans h (by decide)
theorem ed_tup {t : TA} {m : Env → M (List D)} (h : EvA S t m) : EvD S (tTup t) (fun ρ => M.bnd (m ρ) fun l => M.bnd (M.req (l.length ≤ 100000)) fun _ => M.ret (.tup l)) := fun B σ H G ρ Q k er q =>
  h B σ H G ρ _ k er ((m ρ).mono (fun l hl vs H1 G1 k1 c1 r1 => ⟨by rw [r1.length]; exact small hl.1, fun p hp => by
    obtain ⟨k2, c2⟩ := k1.put hp (.tup vs) (fun _ z => nomatch z)
    exact (hl.2 : Rs1 S B H G Q (.tup l)) _ _ _ k2 (c1.trans c2) (.tup (SqT.of upd_same) (r1.mono c2.ext))⟩) q)
theorem el_lst {t : TA} {m : Env → M (List D)} (h : EvA S t m) : EvL S (tLst t) (fun ρ => M.bnd (m ρ) fun l => M.bnd (M.req (l.length ≤ 100000)) fun _ => M.ret l) := fun B σ H G ρ Q k er q =>
  h B σ H G ρ _ k er ((m ρ).mono (fun l hl vs H1 G1 k1 c1 r1 => ⟨by rw [r1.length]; exact small hl.1, fun p hp => by
    obtain ⟨k2, c2⟩ := k1.lay hp (.lst vs)
    exact (hl.2 : Rs2 S B H G Q l) p vs _ _ (c1.fr p (FrA.of hp)) k2 (c1.trans c2) upd_same (k1.sub.free hp) r1⟩) q)
/-! calls -/
def spD (S : Base) (f : List D → M D) : Sp := fun vs H Q _ => ∃ B G ds, Ok B H G ∧ RpA S B G vs ds ∧ (f ds).run (Rs1 S B H G Q)
def spL (S : Base) (f : List D → M (List D)) : Sp := fun vs H Q _ => ∃ B G ds, Ok B H G ∧ RpA S B G vs ds ∧ (f ds).run (Rs2 S B H G Q)
theorem ed_call {f : List D → M D} {E : XK} {t : TA} {m : Env → M (List D)} (h : EvA S t m) : EvD S (tCall (spD S f) [] E t) (fun ρ => M.bnd (m ρ) f) := fun B σ H G ρ Q k er q =>
  h B σ H G ρ _ k er ((m ρ).mono (fun l hl vs H1 G1 k1 c1 r1 => ⟨B, G1, l, k1, by rw [List.append_nil]; exact r1, (f l).mono (fun z hz => hz.after c1) hl⟩) q)
theorem el_call {f : List D → M (List D)} {E : XK} {t : TA} {m : Env → M (List D)} (h : EvA S t m) : EvL S (tCall (spL S f) [] E t) (fun ρ => M.bnd (m ρ) f) := fun B σ H G ρ Q k er q =>
  h B σ H G ρ _ k er ((m ρ).mono (fun l hl vs H1 G1 k1 c1 r1 => ⟨B, G1, l, k1, by rw [List.append_nil]; exact r1, (f l).mono (fun z hz => hz.after c1) hl⟩) q)
def asW : D → M D
  | .web n As Ms => M.ret (.web n As Ms)
  | _ => M.fail
theorem asW_run {d : D} {Q : D → Prop} (h : (asW d).run Q) : ∃ n As Ms, d = .web n As Ms ∧ Q d := by
  cases d <;> first | exact ⟨_, _, _, rfl, h⟩ | exact h.elim
theorem ed_meth {f : List D → M D} {E : XK} {n : Str} {t : TA} {m : Env → M (List D)} (hn : n ∉ (["places", "arrow_rows", "mark_rows", "onward", "backward"] : List Str)) (ho : EvD S ta ma) (h : EvA S t m) : EvD S (tMeth S.C n (spD S f) [] E ta t) (fun ρ => M.bnd (ma ρ) fun w => M.bnd (asW w) fun w => M.bnd (m ρ) fun l => f (w :: l)) := fun B σ H G ρ Q k er q =>
  ho B σ H G ρ _ k er ((ma ρ).mono (fun d hd v H1 G1 k1 c1 r1 => by
    obtain ⟨n', As, Ms, rfl, hd⟩ := asW_run hd
    cases r1 with
    | web hw =>
      obtain ⟨dx, fs, h1, h2⟩ := S.ins hw
      refine ⟨_, dx, fs, rfl, k1.sub _ _ h1, h2 n hn, ?_⟩
      refine h B σ H1 G1 ρ _ k1 (er.mono c1.ext) ((m ρ).mono (fun l hl vs H2 G2 k2 c2 r2 => ⟨B, G2, _ :: l, k2, .cons (.web (S.mono c2.ext hw)) (by rw [List.append_nil]; exact r2), (f _).mono (fun z hz => hz.after (c1.trans c2)) hl⟩) hd)) q)
theorem el_meth {f : List D → M (List D)} {E : XK} {n : Str} {t : TA} {m : Env → M (List D)} (hn : n ∉ (["places", "arrow_rows", "mark_rows", "onward", "backward"] : List Str)) (ho : EvD S ta ma) (h : EvA S t m) : EvL S (tMeth S.C n (spL S f) [] E ta t) (fun ρ => M.bnd (ma ρ) fun w => M.bnd (asW w) fun w => M.bnd (m ρ) fun l => f (w :: l)) := fun B σ H G ρ Q k er q =>
  ho B σ H G ρ _ k er ((ma ρ).mono (fun d hd v H1 G1 k1 c1 r1 => by
    obtain ⟨n', As, Ms, rfl, hd⟩ := asW_run hd
    cases r1 with
    | web hw =>
      obtain ⟨dx, fs, h1, h2⟩ := S.ins hw
      refine ⟨_, dx, fs, rfl, k1.sub _ _ h1, h2 n hn, ?_⟩
      refine h B σ H1 G1 ρ _ k1 (er.mono c1.ext) ((m ρ).mono (fun l hl vs H2 G2 k2 c2 r2 => ⟨B, G2, _ :: l, k2, .cons (.web (S.mono c2.ext hw)) (by rw [List.append_nil]; exact r2), (f _).mono (fun z hz => hz.after (c1.trans c2)) hl⟩) hd)) q)
theorem ed_cb {r : List V → Hp → VK → Prop} {f : List D → M D} {t : TA} {m : Env → M (List D)} (hr : RCD S r f) (h : EvA S t m) : EvD S (tCB r t) (fun ρ => M.bnd (m ρ) f) := fun B σ H G ρ Q k er q =>
  h B σ H G ρ _ k er ((m ρ).mono (fun l hl vs H1 G1 k1 c1 r1 => hr B H1 G1 vs l Q k1 r1 ((f l).mono (fun z hz => hz.after c1) hl)) q)
theorem el_cb {r : List V → Hp → VK → Prop} {f : List D → M (List D)} {t : TA} {m : Env → M (List D)} (hr : RCL S r f) (h : EvA S t m) : EvL S (tCB r t) (fun ρ => M.bnd (m ρ) f) := fun B σ H G ρ Q k er q =>
  h B σ H G ρ _ k er ((m ρ).mono (fun l hl vs H1 G1 k1 c1 r1 => hr B H1 G1 vs l Q k1 r1 ((f l).mono (fun z hz => hz.after c1) hl)) q)
end
end Dv
namespace Dv
open PySem PySem.Spec PyProof.Rows L2
variable {S : Base} {B : Bo S}
theorem ed_chain {r r' : R2} {ta tb tc : TE} {ma mb mc : Env → M D} {f f' : D → D → M D} (hr : R2D S r f) (hr' : R2D S r' f') (ha : EvD S ta ma) (hb : EvD S tb mb) (hc : EvD S tc mc) : EvD S (tChain r r' ta tb tc) (fun ρ => M.bnd (ma ρ) fun x => M.bnd (mb ρ) fun y => M.bnd (f x y) fun z => M.bnd (asB z) fun k => if k = true then M.bnd (mc ρ) fun u => f' y u else M.ret (.bl false)) := fun B σ H G ρ Q k er h =>
  ha B σ H G ρ _ k er ((ma ρ).mono (fun d hd v H1 G1 k1 c1 r1 => hb B σ H1 G1 ρ _ k1 (er.mono c1.ext) ((mb ρ).mono (fun e he v2 H2 G2 k2 c2 r2 => hr B H2 G2 v v2 d e _ k2 (r1.mono c2.ext) r2 ((f d e).mono (fun z hz v3 H3 G3 k3 c3 r3 => by
    obtain ⟨b, rfl, hz⟩ := asB_run hz
    cases r3
    refine ⟨b, rfl, ?_⟩
    have c13 := (c1.trans c2).trans c3
    cases b with
    | true => exact hc B σ H3 G3 ρ _ k3 (er.mono c13.ext) ((mc ρ).mono (fun u hu v4 H4 G4 k4 c4 r4 => hr' B H4 G4 v2 v4 e u Q k4 (r2.mono (c3.trans c4).ext) r4 ((f' e u).mono (fun y hy => hy.after (c13.trans c4)) hu)) hz)
    | false => exact (show Rs1 S B H G Q (.bl false) from hz) _ H3 G3 k3 c13 (.bl false)) he)) hd)) h)
/-! ### whole numbers -/
def opI (C : Int → Int → Prop) (g : Int → Int → V) : D → D → M D
  | .int i, .int j => M.bnd (M.req (C i j)) fun _ => M.opt (dOf (g i j))
  | _, _ => M.fail
def opI0 (g : Int → Int → V) : D → D → M D
  | .int i, .int j => M.opt (dOf (g i j))
  | _, _ => M.fail
theorem opI0_run {g : Int → Int → V} {d e : D} {Q : D → Prop} (h : (opI0 g d e).run Q) : ∃ i j z, d = .int i ∧ e = .int j ∧ dOf (g i j) = some z ∧ Q z := by
  cases d <;> cases e <;> first
    | exact h.elim
    | (obtain ⟨z, h1, h2⟩ := M.run_opt h; exact ⟨_, _, z, rfl, rfl, h1, h2⟩)
theorem opI_run {C : Int → Int → Prop} {g : Int → Int → V} {d e : D} {Q : D → Prop} (h : (opI C g d e).run Q) : ∃ i j z, d = .int i ∧ e = .int j ∧ C i j ∧ dOf (g i j) = some z ∧ Q z := by
  cases d <;> cases e <;> first
    | exact h.elim
    | (obtain ⟨z, h1, h2⟩ := M.run_opt h.2; exact ⟨_, _, z, rfl, rfl, h.1, h1, h2⟩)
theorem r_I0 {g : Int → Int → V} : R2D S (rI0 g) (opI0 g) := fun B H G x y d e Q k rx ry h => by
  obtain ⟨i, j, z, rfl, rfl, h1, h2⟩ := opI0_run h
  cases rx
  cases ry
  exact ⟨i, j, rfl, rfl, Rs1.now k h2 (rp_dOf h1)⟩
theorem r_I {C : Int → Int → Prop} {g : Int → Int → V} : R2D S (rI C g) (opI C g) := fun B H G x y d e Q k rx ry h => by
  obtain ⟨i, j, z, rfl, rfl, hc, h1, h2⟩ := opI_run h
  cases rx
  cases ry
  exact ⟨i, j, rfl, rfl, hc, Rs1.now k h2 (rp_dOf h1)⟩
def unI (g : Int → V) : D → M D
  | .int i => M.opt (dOf (g i))
  | _ => M.fail
theorem r_U {g : Int → V} : R1D S (rU g) (unI g) := fun B H G x d Q k rx h => by
  cases rx <;> first
    | exact h.elim
    | (obtain ⟨z, h1, h2⟩ := M.run_opt h; exact ⟨_, rfl, Rs1.now k h2 (rp_dOf h1)⟩)
/-! ### == of scalars, is None -/
def eqO : Option V → Option V → M Bool
  | some v, some u => M.bnd (M.req (scal v u = true)) fun _ => M.ret (decide (v = u))
  | _, _ => M.fail
def eqS (d e : D) : M Bool := eqO (vOf d) (vOf e)
theorem eqS_run {d e : D} {Q : Bool → Prop} (h : (eqS d e).run Q) : ∃ v u, vOf d = some v ∧ vOf e = some u ∧ scal v u = true ∧ Q (decide (v = u)) := by
  unfold eqS at h
  cases h1 : vOf d with
  | none => rw [h1] at h; exact h.elim
  | some v =>
    cases h2 : vOf e with
    | none => rw [h1, h2] at h; exact h.elim
    | some u => rw [h1, h2] at h; exact ⟨v, u, rfl, rfl, h.1, h.2⟩
theorem r_eq : R2D S rEq (fun d e => M.bnd (eqS d e) fun b => M.ret (.bl b)) := fun B H G x y d e Q k rx ry h => by
  obtain ⟨v, u, h1, h2, h3, h4⟩ := eqS_run h
  rw [rp_vOf h1 rx, rp_vOf h2 ry]
  exact ⟨h3, Rs1.now k h4 (.bl _)⟩
theorem r_ne : R2D S rNe (fun d e => M.bnd (eqS d e) fun b => M.ret (.bl (!b))) := fun B H G x y d e Q k rx ry h => by
  obtain ⟨v, u, h1, h2, h3, h4⟩ := eqS_run h
  rw [rp_vOf h1 rx, rp_vOf h2 ry]
  exact ⟨h3, Rs1.now k h4 (.bl _)⟩
def isNon : D → Bool
  | .non => true
  | _ => false
theorem rp_non {G : Hp} {v : V} {d : D} (r : Rp S B G v d) : decide (v = .non) = isNon d := by
  cases r <;> rfl
def isN : D → D → M D
  | d, .non => M.ret (.bl (isNon d))
  | _, _ => M.fail
def notN : D → D → M D
  | d, .non => M.ret (.bl (!isNon d))
  | _, _ => M.fail
theorem r_isN : R2D S (fun x y H Q => y = .non ∧ Q (.bl (decide (x = .non))) H) isN := fun B H G x y d e Q k rx ry h => by
  cases ry <;> first
    | (cases d <;> exact h.elim)
    | (refine ⟨rfl, ?_⟩; rw [rp_non rx]; cases d <;> exact Rs1.now k h (.bl _))
theorem r_notN : R2D S (fun x y H Q => y = .non ∧ Q (.bl (!decide (x = .non))) H) notN := fun B H G x y d e Q k rx ry h => by
  cases ry <;> first
    | (cases d <;> exact h.elim)
    | (refine ⟨rfl, ?_⟩; rw [rp_non rx]; cases d <;> exact Rs1.now k h (.bl _))
/-! ### items -/
theorem atI_lt {α : Type} {xs : List α} {i : Int} {x : α} (h : atI xs i = some x) : ∃ j, ixN xs.length i = some j ∧ xs[j]? = some x := by
  unfold atI at h
  cases e : ixN xs.length i with
  | none => rw [e] at h; cases h
  | some j => rw [e] at h; exact ⟨j, rfl, h⟩
theorem RpA.atI {G : Hp} {vs : List V} {ds : List D} (r : RpA S B G vs ds) {i : Int} {d : D} (h : L2.atI ds i = some d) : ∃ v, L2.atI vs i = some v ∧ Rp S B G v d := by
  obtain ⟨j, h1, h2⟩ := atI_lt h
  obtain ⟨v, h3, h4⟩ := r.get h2
  refine ⟨v, ?_, h4⟩
  unfold L2.atI
  rw [r.length, h1]
  exact h3
def ixL : D → D → M D
  | .lst ds, .int i => M.opt (L2.atI ds i)
  | _, _ => M.fail
def ixT : D → D → M D
  | .tup ds, .int i => M.opt (L2.atI ds i)
  | _, _ => M.fail
theorem r_ixL : R2D S (rIxL S.K) ixL := fun B H G x y d e Q k rx ry h => by
  cases d <;> cases e <;> first
    | exact h.elim
    | (obtain ⟨z, h1, h2⟩ := M.run_opt h
       cases rx with
       | lst ha hr =>
         cases ry
         obtain ⟨v, h3, h4⟩ := hr.atI h1
         exact ⟨_, _, _, v, rfl, rfl, SqL.of (k.sub _ _ ha), h3, Rs1.now k h2 h4⟩)
theorem r_ixT : R2D S (rIxT S.K) ixT := fun B H G x y d e Q k rx ry h => by
  cases d <;> cases e <;> first
    | exact h.elim
    | (obtain ⟨z, h1, h2⟩ := M.run_opt h
       cases rx with
       | tup ha hr =>
         cases ry
         obtain ⟨v, h3, h4⟩ := hr.atI h1
         exact ⟨_, _, _, v, rfl, rfl, sub_tup k.sub ha, h3, Rs1.now k h2 h4⟩)
def ixQ : D → D → M D
  | .lst ds, .int i => M.opt (L2.atI ds i)
  | .tup ds, .int i => M.opt (L2.atI ds i)
  | .str z, .int i => M.bnd (M.req (z.length ≤ 100000)) fun _ => M.bnd (M.opt (L2.atI z.cps.toList i)) fun c => M.ret (.str ⟨#[c]⟩)
  | _, _ => M.fail
theorem r_ixQ : R2D S (rIx S.K) ixQ := fun B H G x y d e Q k rx ry h => by
  cases d <;> cases e <;> first
    | exact h.elim
    | (obtain ⟨z, h1, h2⟩ := M.run_opt h
       cases rx with
       | lst ha hr =>
         cases ry
         obtain ⟨v, h3, h4⟩ := hr.atI h1
         exact .inl ⟨_, _, _, v, rfl, rfl, SqL.of (k.sub _ _ ha), h3, Rs1.now k h2 h4⟩)
    | (obtain ⟨z, h1, h2⟩ := M.run_opt h
       cases rx with
       | tup ha hr =>
         cases ry
         obtain ⟨v, h3, h4⟩ := hr.atI h1
         exact .inr (.inl ⟨_, _, _, v, rfl, rfl, sub_tup k.sub ha, h3, Rs1.now k h2 h4⟩))
    | (obtain ⟨c, h1, h2⟩ := M.run_opt h.2
       cases rx
       cases ry
       exact .inr (.inr ⟨_, _, c, rfl, rfl, small h.1, h1, Rs1.now k h2 (.str _)⟩))
def lenD : List D → M D
  | [.lst l] => M.ret (.int (l.length : Int))
  | [.tup l] => M.ret (.int (l.length : Int))
  | _ => M.fail
theorem lenD_run {ds : List D} {Q : D → Prop} (h : (lenD ds).run Q) : ∃ l, (ds = [.lst l] ∨ ds = [.tup l]) ∧ Q (.int (l.length : Int)) := by
  unfold lenD at h
  split at h
  · exact ⟨_, .inl rfl, h⟩
  · exact ⟨_, .inr rfl, h⟩
  · exact h.elim
theorem r_len : RCD S (fun xs H Q => ∃ p ys, xs = [.ref p] ∧ (SqL S.K H p ys ∨ SqT S.K H p ys) ∧ Q (.int ys.length) H) lenD := fun B H G vs ds Q k r h => by
  obtain ⟨l, e, h⟩ := lenD_run h
  rcases e with rfl | rfl
  · cases r with
    | cons r1 r2 =>
      cases r2
      cases r1 with
      | lst ha hr => exact ⟨_, _, rfl, .inl (SqL.of (k.sub _ _ ha)), by rw [hr.length]; exact Rs1.now k h (.int _)⟩
  · cases r with
    | cons r1 r2 =>
      cases r2
      cases r1 with
      | tup ha hr => exact ⟨_, _, rfl, .inr (sub_tup k.sub ha), by rw [hr.length]; exact Rs1.now k h (.int _)⟩
def listD : List D → M (List D)
  | [.lst l] => M.ret l
  | [.tup l] => M.ret l
  | _ => M.fail
theorem listD_run {ds : List D} {Q : List D → Prop} (h : (listD ds).run Q) : ∃ l, (ds = [.lst l] ∨ ds = [.tup l]) ∧ Q l := by
  unfold listD at h
  split at h
  · exact ⟨_, .inl rfl, h⟩
  · exact ⟨_, .inr rfl, h⟩
  · exact h.elim
theorem Rs2.lay {H G : Hp} {Q : VK} {ds : List D} (k : Ok B H G) (h : Rs2 S B H G Q ds) {xs : List V} (r : RpA S B G xs ds) {p : Addr} (hp : H p = none) : Q (.ref p) (upd H p (.lst xs)) := by
  obtain ⟨k2, c2⟩ := k.lay hp (.lst xs)
  exact h p xs _ _ (FrA.of hp) k2 c2 upd_same (k.sub.free hp) r
theorem r_list : RCL S (fun xs H Q => ∃ p ys, xs = [.ref p] ∧ (SqL S.K H p ys ∨ SqT S.K H p ys) ∧ ∀ l, H l = none → Q (.ref l) (upd H l (.lst ys))) listD := fun B H G vs ds Q k r h => by
  obtain ⟨l, e, h⟩ := listD_run h
  rcases e with rfl | rfl
  · cases r with
    | cons r1 r2 =>
      cases r2
      cases r1 with
      | lst ha hr => exact ⟨_, _, rfl, .inl (SqL.of (k.sub _ _ ha)), fun p hp => Rs2.lay k h hr hp⟩
  · cases r with
    | cons r1 r2 =>
      cases r2
      cases r1 with
      | tup ha hr => exact ⟨_, _, rfl, .inr (sub_tup k.sub ha), fun p hp => Rs2.lay k h hr hp⟩
def catD : D → D → M (List D)
  | .lst a, .lst b => M.bnd (M.req (a.length + b.length ≤ 100000)) fun _ => M.ret (a ++ b)
  | _, _ => M.fail
theorem r_cat : R2L S rCat catD := fun B H G x y d e Q k rx ry h => by
  cases d <;> cases e <;> first
    | exact h.elim
    | (cases rx with
       | lst ha hr =>
         cases ry with
         | lst hb hs => exact ⟨_, _, _, _, rfl, rfl, k.sub _ _ ha, k.sub _ _ hb, by rw [hr.length, hs.length]; exact small h.1, fun p hp => Rs2.lay k h.2 (hr.append hs) hp⟩)
/-! ### slices -/
def cutD (xs : List D) (lo hi : Option Int) : List D := (xs.drop (HT.sIx xs.length 0 lo)).take (HT.sIx xs.length xs.length hi - HT.sIx xs.length 0 lo)
theorem RpA.cut {G : Hp} {vs : List V} {ds : List D} (r : RpA S B G vs ds) (lo hi : Option Int) : RpA S B G (cutV vs lo hi) (cutD ds lo hi) := by
  unfold cutV cutD
  rw [r.length]
  exact (r.drop _).take _
theorem eo_none : EvO S tNoPart (fun _ => M.ret none) := fun B σ H G ρ Q k er h => h H G k Ch.refl
def asI : D → M Int
  | .int i => M.ret i
  | _ => M.fail
theorem eo_some {te : TE} {me : Env → M D} (h : EvD S te me) : EvO S (tPart te) (fun ρ => M.bnd (me ρ) fun d => M.bnd (asI d) fun i => M.ret (some i)) := fun B σ H G ρ Q k er q =>
  h B σ H G ρ _ k er ((me ρ).mono (fun d hd v H1 G1 k1 c1 r1 => by
    cases r1 <;> first
      | exact hd.elim
      | exact ⟨_, rfl, (show ∀ H' G', Ok B H' G' → Ch B H G H' G' → Q (some _) H' from hd) H1 G1 k1 c1⟩) q)
def asL : D → M (List D)
  | .lst l => M.ret l
  | _ => M.fail
theorem asL_run {d : D} {Q : List D → Prop} (h : (asL d).run Q) : ∃ l, d = .lst l ∧ Q l := by
  cases d <;> first | exact ⟨_, rfl, h⟩ | exact h.elim
theorem el_sl {te : TE} {tl th : TO} {me : Env → M D} {ml mh : Env → M (Option Int)} (h : EvD S te me) (h1 : EvO S tl ml) (h2 : EvO S th mh) : EvL S (tSl (rSlL S.K) te tl th) (fun ρ => M.bnd (me ρ) fun d => M.bnd (ml ρ) fun lo => M.bnd (mh ρ) fun hi => M.bnd (asL d) fun l => M.ret (cutD l lo hi)) := fun B σ H G ρ Q k er q =>
  h B σ H G ρ _ k er ((me ρ).mono (fun d hd v H1 G1 k1 c1 r1 => h1 B σ H1 G1 ρ _ k1 (er.mono c1.ext) ((ml ρ).mono (fun lo hlo H2 G2 k2 c2 => h2 B σ H2 G2 ρ _ k2 (er.mono (c1.trans c2).ext) ((mh ρ).mono (fun hi hhi H3 G3 k3 c3 => by
    obtain ⟨l, rfl, hl⟩ := asL_run hhi
    cases r1.mono (c2.trans c3).ext with
    | lst ha hr => exact ⟨_, _, rfl, SqL.of (k3.sub _ _ ha), fun p hp => Rs2.lay k3 (Rs2.after ((c1.trans c2).trans c3) hl) (hr.cut lo hi) hp⟩) hlo)) hd)) q)
/-! ### starred items -/
theorem ea_star {te : TE} {t : TA} {me : Env → M D} {m : Env → M (List D)} (h : EvD S te me) (hr : EvA S t m) : EvA S (StX.tStar S.K te t) (fun ρ => M.bnd (me ρ) fun d => M.bnd (listD [d]) fun l => M.bnd (m ρ) fun ys => M.ret (l ++ ys)) := fun B σ H G ρ Q k er q =>
  h B σ H G ρ _ k er ((me ρ).mono (fun d hd v H1 G1 k1 c1 r1 => by
    obtain ⟨l, e, hd⟩ := listD_run hd
    have go : ∀ {a : Addr} {xs : List V}, v = .ref a → RpA S B G1 xs l → (SqT S.K H1 a xs ∨ SqL S.K H1 a xs) → ∃ p xs, v = V.ref p ∧ (SqT S.K H1 p xs ∨ SqL S.K H1 p xs) ∧ t σ H1 fun ys H2 => Q (xs ++ ys) H2 := fun {a xs} e rx hs =>
      ⟨a, xs, e, hs, hr B σ H1 G1 ρ _ k1 (er.mono c1.ext) ((m ρ).mono (fun ys hy vs H2 G2 k2 c2 r2 => hy _ H2 G2 k2 (c1.trans c2) ((rx.mono c2.ext).append r2)) hd)⟩
    rcases e with e | e
    · injection e with e _
      subst e
      cases r1 with
      | lst ha hx => exact go rfl hx (.inr (SqL.of (k1.sub _ _ ha)))
    · injection e with e _
      subst e
      cases r1 with
      | tup ha hx => exact go rfl hx (.inl (sub_tup k1.sub ha))) q)
end Dv
namespace Dv
open PySem PySem.Spec PyProof.Rows L2 Sg
variable {S : Base} {B : Bo S}
/-! ### targets -/
def Agree (js : List Nat) (σ σ' : L2.St) : Prop := σ'.length = σ.length ∧ ∀ i, i ∉ js → σ'[i]? = σ[i]?
theorem Agree.trans {js ks : List Nat} {σ σ1 σ2 : L2.St} (a : Agree js σ σ1) (b : Agree ks σ1 σ2) : Agree (js ++ ks) σ σ2 :=
  ⟨b.1.trans a.1, fun i h => by
    rw [List.mem_append, not_or] at h
    rw [b.2 i h.2, a.2 i h.1]⟩
theorem wipe_get (σ : L2.St) : ∀ (vs : List Nat) (i : Nat), (wipe σ vs)[i]? = if i ∈ vs then σ[i]?.map (fun _ => none) else σ[i]?
  | [], i => by simp [wipe]
  | v :: vs, i => by
    unfold wipe
    rw [List.getElem?_set]
    by_cases h : v = i
    · subst h
      rw [if_pos rfl, wipe_length]
      rw [if_pos (List.mem_cons_self ..)]
      by_cases hl : v < σ.length
      · rw [if_pos hl, List.getElem?_eq_getElem hl]; rfl
      · rw [if_neg hl, List.getElem?_eq_none (by omega)]; rfl
    · rw [if_neg h, wipe_get σ vs i]
      have : i ∈ v :: vs ↔ i ∈ vs := by
        rw [List.mem_cons]
        exact ⟨fun z => z.elim (fun e => absurd e.symm h) id, .inr⟩
      simp only [this]
theorem Agree.wipe {js vs : List Nat} {σ σ' : L2.St} (a : Agree js σ σ') (h : ∀ j ∈ js, j ∈ vs) : L2.wipe σ' vs = L2.wipe σ vs := by
  refine List.ext_getElem? fun i => ?_
  rw [wipe_get, wipe_get]
  by_cases hi : i ∈ vs
  · rw [if_pos hi, if_pos hi]
    by_cases hl : i < σ.length
    · rw [List.getElem?_eq_getElem hl, List.getElem?_eq_getElem (by rw [a.1]; exact hl)]; rfl
    · have := a.1
      rw [List.getElem?_eq_none (show σ'.length ≤ i by omega), List.getElem?_eq_none (show σ.length ≤ i by omega)]
  · rw [if_neg hi, if_neg hi, a.2 i fun z => hi (h i z)]
theorem wipe_idem (σ : L2.St) (vs : List Nat) : wipe (wipe σ vs) vs = wipe σ vs := by
  refine List.ext_getElem? fun i => ?_
  rw [wipe_get, wipe_get]
  by_cases hi : i ∈ vs
  · rw [if_pos hi, if_pos hi]
    cases σ[i]? <;> rfl
  · rw [if_neg hi, if_neg hi]
def wipeE (ρ : Env) : List Nat → Env
  | [] => ρ
  | v :: vs => (wipeE ρ vs).set v none
theorem wipeE_len (ρ : Env) : ∀ vs, (wipeE ρ vs).length = ρ.length
  | [] => rfl
  | v :: vs => by unfold wipeE; rw [List.length_set, wipeE_len ρ vs]
theorem wipeE_some {ρ : Env} {i : Nat} {d : D} : ∀ {vs : List Nat}, (wipeE ρ vs)[i]? = some (some d) → ρ[i]? = some (some d) ∧ i ∉ vs
  | [], h => ⟨h, by simp⟩
  | v :: vs, h => by
    unfold wipeE at h
    rw [List.getElem?_set] at h
    by_cases e : v = i
    · rw [if_pos e] at h
      split at h
      · cases h
      · cases h
    · rw [if_neg e] at h
      obtain ⟨h1, h2⟩ := wipeE_some h
      exact ⟨h1, fun z => (List.mem_cons.mp z).elim (fun q => e q.symm) h2⟩
theorem Er.wipe {G : Hp} {σ : L2.St} {ρ : Env} (h : Er S B G σ ρ) (vs : List Nat) : Er S B G (L2.wipe σ vs) (wipeE ρ vs) := ⟨by rw [wipeE_len, wipe_length, h.len], fun i d e => by
  obtain ⟨h1, h2⟩ := wipeE_some e
  obtain ⟨v, h3, h4⟩ := h.get i d h1
  exact ⟨v, by rw [wipe_get, if_neg h2, h3], h4⟩⟩
theorem Er.set {G : Hp} {σ : L2.St} {ρ : Env} (h : Er S B G σ ρ) {v : V} {d : D} (r : Rp S B G v d) (j : Nat) : Er S B G (σ.set j (some v)) (ρ.set j (some d)) := ⟨by rw [List.length_set, List.length_set, h.len], fun i e q => by
  rw [List.getElem?_set] at q ⊢
  by_cases hj : j = i
  · rw [if_pos hj] at q ⊢
    rw [h.len] at q
    split at q
    · rename_i hl
      cases q
      exact ⟨v, by rw [if_pos hl], r⟩
    · cases q
  · rw [if_neg hj] at q ⊢
    exact h.get i e q⟩
def EgD (S : Base) (g : TG) (b : D → Env → M Env) (js : List Nat) : Prop := ∀ B σ H G ρ v d Q, Ok B H G → Er S B G σ ρ → Rp S B G v d → (b d ρ).run (fun ρ' => ∀ σ', Er S B G σ' ρ' → Agree js σ σ' → Q σ' H) → g v σ H Q
def EgsD (S : Base) (g : TGs) (b : List D → Env → M Env) (js : List Nat) : Prop := ∀ B σ H G ρ vs ds Q, Ok B H G → Er S B G σ ρ → RpA S B G vs ds → (b ds ρ).run (fun ρ' => ∀ σ', Er S B G σ' ρ' → Agree js σ σ' → Q σ' H) → g vs σ H Q
theorem eg_name {j : Nat} : EgD S (gName j) (fun d ρ => M.ret (ρ.set j (some d))) [j] := fun B σ H G ρ v d Q k er r h =>
  h _ (er.set r j) ⟨List.length_set, fun i hi => by rw [List.getElem?_set, if_neg fun z => hi (by rw [z]; exact List.mem_singleton.mpr rfl)]⟩
def bNil : List D → Env → M Env
  | [], ρ => M.ret ρ
  | _, _ => M.fail
def bCons (b : D → Env → M Env) (bs : List D → Env → M Env) : List D → Env → M Env
  | d :: ds, ρ => M.bnd (b d ρ) fun ρ' => bs ds ρ'
  | [], _ => M.fail
theorem eg_nil : EgsD S gNil bNil [] := fun B σ H G ρ vs ds Q k er r h => by
  cases r with
  | nil => exact ⟨rfl, h σ er ⟨rfl, fun _ _ => rfl⟩⟩
  | cons _ _ => exact h.elim
theorem eg_cons {g : TG} {gs : TGs} {b : D → Env → M Env} {bs : List D → Env → M Env} {js ks : List Nat} (h1 : EgD S g b js) (h2 : EgsD S gs bs ks) : EgsD S (gCons g gs) (bCons b bs) (js ++ ks) := fun B σ H G ρ vs ds Q k er r h => by
  cases r with
  | nil => exact h.elim
  | cons r1 r2 => exact ⟨_, _, rfl, h1 B σ H G ρ _ _ _ k er r1 ((b _ ρ).mono (fun ρ' hρ σ' er' a => h2 B σ' H G ρ' _ _ _ k er' r2 ((bs _ ρ').mono (fun ρ2 h3 σ2 er2 a2 => h3 σ2 er2 (a.trans a2)) hρ)) h)⟩
def bTup (n : Nat) (bs : List D → Env → M Env) : D → Env → M Env
  | .tup ds, ρ => M.bnd (M.req (ds.length = n)) fun _ => bs ds ρ
  | _, _ => M.fail
theorem eg_tup {n : Nat} {gs : TGs} {bs : List D → Env → M Env} {js : List Nat} (h : EgsD S gs bs js) : EgD S (gTup S.K n gs) (bTup n bs) js := fun B σ H G ρ v d Q k er r q => by
  cases r <;> first
    | exact q.elim
    | (rename_i ha hr
       exact ⟨_, _, rfl, sub_tup k.sub ha, by rw [hr.length]; exact q.1, h B σ H G ρ _ _ Q k er hr q.2⟩)
/-! ### what is walked -/
structure WkD (S : Base) (B : Bo S) (J : It) (G : Hp) (ds : List D) : Prop where
  go : ∀ i L GL, Ok B L GL → Sub G GL → i < ds.length → J.go i L
  st : ∀ L GL, Ok B L GL → Sub G GL → J.stop ds.length L
  yl : ∀ i L GL x L', Ok B L GL → Sub G GL → (h : i < ds.length) → J.yld i L x L' → ∃ GL', Ok B L' GL' ∧ Ch B L GL L' GL' ∧ Rp S B GL' x ds[i]
def EiD (S : Base) (wi : TI) (m : Env → M (List D)) : Prop := ∀ B σ H G ρ R, Ok B H G → Er S B G σ ρ → (m ρ).run (fun ds => ∀ J H' G', Ok B H' G' → Ch B H G H' G' → WkD S B J G' ds → R J H') → wi σ H R
theorem wk_at {J : It} {xs : List V} {G : Hp} {P : Hp → Prop} {ds : List D} (w : Walk J xs.length P (YAt xs)) (hp : ∀ L GL, Ok B L GL → Sub G GL → P L) (r : RpA S B G xs ds) : WkD S B J G ds :=
  ⟨fun i L GL k s h => w.goes i L (by rw [r.length]; exact h) (hp L GL k s), fun L GL k s => by rw [← r.length]; exact w.stops L (hp L GL k s), fun i L GL x L' k s h y => by
    obtain ⟨rfl, hx⟩ := w.yields i L x L' (by rw [r.length]; exact h) (hp L GL k s) y
    obtain ⟨d, h1, h2⟩ := r.getV hx
    rw [List.getElem?_eq_getElem h] at h1
    cases h1
    exact ⟨GL, k, Ch.refl, h2.mono s⟩⟩
theorem ei_list {tl : TE} {m : Env → M D} (h : EvD S tl m) : EiD S (iList S.K tl) (fun ρ => M.bnd (m ρ) asL) := fun B σ H G ρ R k er q =>
  h B σ H G ρ _ k er ((m ρ).mono (fun d hd v H1 G1 k1 c1 r1 => by
    obtain ⟨l, rfl, hl⟩ := asL_run hd
    cases r1 with
    | lst ha hr => exact ⟨_, rfl, ⟨_, SqL.of (k1.sub _ _ ha)⟩, hl _ H1 G1 k1 c1 (wk_at walk_list (fun L GL k s => SqL.of (k.sub _ _ (s _ _ ha))) hr)⟩) q)
def asT : D → M (List D)
  | .tup l => M.ret l
  | _ => M.fail
theorem asT_run {d : D} {Q : List D → Prop} (h : (asT d).run Q) : ∃ l, d = .tup l ∧ Q l := by
  cases d <;> first | exact ⟨_, rfl, h⟩ | exact h.elim
theorem ei_tup {tl : TE} {m : Env → M D} (h : EvD S tl m) : EiD S (iTup S.K tl) (fun ρ => M.bnd (m ρ) asT) := fun B σ H G ρ R k er q =>
  h B σ H G ρ _ k er ((m ρ).mono (fun d hd v H1 G1 k1 c1 r1 => by
    obtain ⟨l, rfl, hl⟩ := asT_run hd
    cases r1 with
    | tup ha hr => exact ⟨_, rfl, ⟨_, sub_tup k1.sub ha⟩, hl _ H1 G1 k1 c1 (wk_at walk_tup (fun L GL k s => sub_tup (s.trans k.sub) ha) hr)⟩) q)
def rngD (lo : Int) (n : Nat) : List D := (List.range n).map fun i : Nat => D.int (lo + (i : Int))
theorem rngD_len (lo : Int) (n : Nat) : (rngD lo n).length = n := by
  unfold rngD
  rw [List.length_map, List.length_range]
theorem wk_range {lo : Int} {n : Nat} {G : Hp} : WkD S B (Itr lo n) G (rngD lo n) :=
  ⟨fun i L GL k s h => by rw [rngD_len] at h; exact walk_range.goes i L h trivial, fun L GL k s => by rw [rngD_len]; exact walk_range.stops L trivial, fun i L GL x L' k s h y => by
    obtain ⟨rfl, rfl⟩ := walk_range.yields i L x L' (by rw [rngD_len] at h; exact h) trivial y
    refine ⟨GL, k, Ch.refl, ?_⟩
    have e : (rngD lo n)[i] = .int (lo + (i : Int)) := by
      simp only [rngD, List.getElem_map, List.getElem_range]
    rw [e]
    exact .int _⟩
def rng1 : List D → M (List D)
  | [.int j] => M.bnd (M.req (-(2 ^ 62) ≤ j ∧ j < 2 ^ 62)) fun _ => M.ret (rngD 0 j.toNat)
  | _ => M.fail
def rng2 : List D → M (List D)
  | [.int i, .int j] => M.bnd (M.req (-(2 ^ 62) ≤ i ∧ i < 2 ^ 62 ∧ -(2 ^ 62) ≤ j ∧ j < 2 ^ 62)) fun _ => M.ret (rngD i (j - i).toNat)
  | _ => M.fail
theorem ei_rng1 {ta : TA} {m : Env → M (List D)} (h : EvA S ta m) : EiD S (iRng1 ta) (fun ρ => M.bnd (m ρ) rng1) := fun B σ H G ρ R k er q =>
  h B σ H G ρ _ k er ((m ρ).mono (fun ds hd vs H1 G1 k1 c1 r1 => by
    unfold rng1 at hd
    split at hd
    · cases r1 with
      | cons a b =>
        cases a
        cases b
        exact ⟨_, rfl, hd.1.1, hd.1.2, hd.2 _ H1 G1 k1 c1 wk_range⟩
    · exact hd.elim) q)
theorem ei_rng2 {ta : TA} {m : Env → M (List D)} (h : EvA S ta m) : EiD S (iRng2 ta) (fun ρ => M.bnd (m ρ) rng2) := fun B σ H G ρ R k er q =>
  h B σ H G ρ _ k er ((m ρ).mono (fun ds hd vs H1 G1 k1 c1 r1 => by
    unfold rng2 at hd
    split at hd
    · cases r1 with
      | cons a b =>
        cases a
        cases b with
        | cons c d =>
          cases c
          cases d
          exact ⟨_, _, rfl, hd.1, hd.2 _ H1 G1 k1 c1 wk_range⟩
    · exact hd.elim) q)
def strD : D → M (List D)
  | .str x => M.ret (x.cps.toList.map fun c => D.str ⟨#[c]⟩)
  | _ => M.fail
theorem ei_str {te : TE} {m : Env → M D} (h : EvD S te m) : EiD S (iStr te) (fun ρ => M.bnd (m ρ) strD) := fun B σ H G ρ R k er q =>
  h B σ H G ρ _ k er ((m ρ).mono (fun d hd v H1 G1 k1 c1 r1 => by
    cases r1 <;> first
      | exact hd.elim
      | (rename_i x
         have el : (x.cps.toList.map fun c => D.str ⟨#[c]⟩).length = x.cps.size := by rw [List.length_map, Array.length_toList]
         refine ⟨_, rfl, (show ∀ J H' G', _ from hd) _ H1 G1 k1 c1 ⟨fun i L GL k s h => ?_, fun L GL k s => ?_, fun i L GL y L' k s h yl => ?_⟩⟩
         · rw [el] at h
           exact walk_str.goes i L h trivial
         · rw [el]
           exact walk_str.stops L trivial
         · obtain ⟨rfl, c, hc, rfl⟩ := walk_str.yields i L y L' (by rw [el] at h; exact h) trivial yl
           refine ⟨GL, k, Ch.refl, ?_⟩
           have : x.cps.toList[i]? = some c := by rw [Array.getElem?_toList]; exact hc
           have hi : i < x.cps.toList.length := (List.getElem?_eq_some_iff.mp this).1
           rw [List.getElem?_eq_getElem hi] at this
           injection this with this
           rw [List.getElem_map, this]
           exact .str _)) q)
/-! ### what may be written -/
theorem Ok.upd {H G : Hp} (k : Ok B H G) {a : Addr} {o : HO} (hg : G a = none) (hl : ∀ u, H a = some u → plainO u = true) (hb : ∀ b q, B.bq = some (b, q) → b ≠ a ∧ q ≠ a) : Ok B (L2.upd H a o) G :=
  ⟨fun c u e => by rw [upd_ne (ne_of_none e hg)]; exact k.sub c u e, k.nm, fun b q e => by
    obtain ⟨h1, h2⟩ := hb b q e
    obtain ⟨ns, i, r, kk, e1, e2, e3⟩ := k.bx b q e
    exact ⟨ns, i, r, kk, by rw [upd_ne h1]; exact e1, by rw [upd_ne h2]; exact e2, e3⟩, tabs_upd k.tb hl, k.nt⟩
theorem Ok.away {H G : Hp} (k : Ok B H G) {a : Addr} (h : FrA H a) : ∀ b q, B.bq = some (b, q) → b ≠ a ∧ q ≠ a := fun b q e => by
  obtain ⟨ns, i, r, kk, e1, e2, e3⟩ := k.bx b q e
  exact ⟨h.ne e1 (fun _ z => nomatch z), h.ne e2 (fun _ z => nomatch z)⟩
theorem Ch.upd {H G H' G' : Hp} (c : Ch B H G H' G') {a : Addr} {o : HO} (h : FrA H a) : Ch B H G (L2.upd H' a o) G' :=
  ⟨fun x u n z e => by rw [upd_ne (h.ne e z)]; exact c.ch x u n z e, fun x e => by
    by_cases z : x = a
    · subst z; exact h
    · exact c.fr x fun u q => e u (by rw [upd_ne z]; exact q), c.ext, c.new⟩
/-- an object that may be changed stays so -/
theorem Ch.mine {H G H' G' : Hp} (c : Ch B H G H' G') {a : Addr} {o : HO} (h : H a = some o) (hg : G a = none) (ho : plainO o = true) (hb : ∀ q, B.bq ≠ some (a, q)) : H' a = some o ∧ G' a = none :=
  ⟨c.ch a o hb (plainO.nt ho) h, by
    cases e : G' a with
    | none => rfl
    | some u => rcases c.new a u e with z | z
                · rw [hg] at z; cases z
                · obtain ⟨ps, e9⟩ := z o h
                  exact absurd e9 (plainO.nt ho ps)⟩
/-! ### a comprehension -/
def lcF (b : D → Env → M Env) (mt : Env → M Bool) (me : Env → M D) (ρ : Env) (d : D) : M (Option D) :=
  M.bnd (b d ρ) fun ρ' => M.bnd (mt ρ') fun t => if t = true then M.bnd (me ρ') fun y => M.ret (some y) else M.ret none
theorem el_lc {wi : TI} {g : TG} {tt : TT} {te : TE} {vs js : List Nat} {mi : Env → M (List D)} {b : D → Env → M Env} {mt : Env → M Bool} {me : Env → M D} (hj : ∀ j ∈ js, j ∈ vs) (hi : EiD S wi mi) (hg : EgD S g b js) (ht : EvT S tt mt) (he : EvD S te me) :
    EvL S (tLc wi g tt te vs) (fun ρ => M.bnd (mi ρ) fun ds => M.bnd (M.req (ds.length ≤ 100000)) fun _ => M.sel (lcF b mt me (wipeE ρ vs)) ds) := fun B σ H G ρ Q k er q =>
  hi B σ H G ρ _ k er ((mi ρ).mono (fun ds hd J H1 G1 k1 c1 wk Dl nD => by
    have nDH : FrA H Dl := c1.fr _ (FrA.of nD)
    have nb : ∀ q, B.bq ≠ some (Dl, q) := fun q e => k.ne e nDH rfl
    have aw := k.away nDH
    refine ⟨fun i m L => m = ds.length - i ∧ i ≤ ds.length ∧ ∃ GL acc done, Ok B L GL ∧ Ch B H1 G1 L GL ∧ L Dl = some (.lst acc) ∧ GL Dl = none ∧ RpA S B GL acc done ∧ done.length ≤ i ∧ (M.sel (lcF b mt me (wipeE ρ vs)) (ds.drop i)).run (fun rest => Rs2 S B H G Q (done ++ rest)), ⟨_, rfl, Nat.zero_le _, ?_⟩, ?_⟩
    · obtain ⟨k2, c2⟩ := k1.lay nD (.lst [])
      exact ⟨G1, [], [], k2, c2, upd_same, k1.sub.free nD, .nil, Nat.le_refl _, hd.2⟩
    · rintro i m L ⟨rfl, hi', GL, acc, done, kL, cL, hD, gD, rD, hdl, hr⟩
      rcases Nat.lt_or_ge i ds.length with hlt | hge
      · refine .inr ⟨wk.go i L GL kL cL.ext hlt, fun L' => (i + 1) ≤ ds.length ∧ ∃ GL acc done, Ok B L' GL ∧ Ch B H1 G1 L' GL ∧ L' Dl = some (.lst acc) ∧ GL Dl = none ∧ RpA S B GL acc done ∧ done.length ≤ i + 1 ∧ (M.sel (lcF b mt me (wipeE ρ vs)) (ds.drop (i + 1))).run (fun rest => Rs2 S B H G Q (done ++ rest)), fun L' hL => ⟨_, by omega, rfl, hL.1, hL.2⟩, fun x L' y => ?_⟩
        obtain ⟨GY, kY, cY, rY⟩ := wk.yl i L GL x L' kL cL.ext hlt y
        obtain ⟨hDY, gDY⟩ := cY.mine hD gD rfl nb
        have eD : ds.drop i = ds[i] :: ds.drop (i + 1) := List.drop_eq_getElem_cons hlt
        rw [eD] at hr
        have cHY := cL.trans cY
        refine hg B (wipe σ vs) L' GY (wipeE ρ vs) x ds[i] _ kY ((er.mono (c1.trans cHY).ext).wipe vs) rY (M.mono _ (fun ρ' hρ σ' er' ag => ?_) hr)
        refine ⟨by rw [ag.wipe hj, wipe_idem], ?_⟩
        refine ht B σ' L' GY ρ' _ kY er' (M.mono _ (fun t htt L3 G3 k3 c3 => ?_) hρ)
        obtain ⟨hD3, gD3⟩ := c3.mine hDY gDY rfl nb
        cases t with
        | false => exact ⟨hlt, G3, acc, done, k3, cHY.trans c3, hD3, gD3, rD.mono (cY.trans c3).ext, by omega, htt⟩
        | true =>
          refine he B σ' L3 G3 ρ' _ k3 (er'.mono c3.ext) (M.mono _ (fun y' hy v4 L4 G4 k4 c4 r4 => ?_) htt)
          obtain ⟨hD4, gD4⟩ := c4.mine hD3 gD3 rfl nb
          have ra := rD.mono ((cY.trans c3).trans c4).ext
          refine ⟨acc, hD4, ?_, hlt, G4, acc ++ [v4], done ++ [y'], k4.upd gD4 (fun u e => by rw [hD4] at e; cases e; rfl) aw, ((cHY.trans c3).trans c4).upd (FrA.of nD), upd_same, gD4, ra.append (.cons r4 .nil), by rw [List.length_append]; exact Nat.succ_le_succ hdl, ?_⟩
          · rw [ra.length]
            have := hd.1
            exact Nat.lt_of_lt_of_le (show done.length < 100000 by omega) (by decide)
          · refine M.mono _ (fun rest hrest => ?_) hy
            rw [List.append_assoc]
            exact hrest
      · obtain rfl : i = ds.length := by omega
        refine .inl ⟨wk.st L GL kL cL.ext, ?_⟩
        rw [List.drop_length] at hr
        have h9 : Rs2 S B H G Q (done ++ []) := hr
        rw [List.append_nil] at h9
        exact h9 Dl acc L GL nDH kL (c1.trans cL) hD gD rD) q)
end Dv
namespace Dv
open PySem PySem.Spec PyProof.Rows L2 Sg
variable {S : Base} {B : Bo S}
/-- a slot: data that stays; a list or a dict that is this def's own and may be changed -/
inductive Sl where
  | f (d : D) | o (ds : List D) | od (es : List (Key × D)) | ot (es : List (Ks × D))
abbrev Ev := List (Option Sl)
def Sl.owned : Sl → Bool
  | .f _ => false
  | _ => true
def Sl.data : Sl → D
  | .f d => d
  | .o ds => .lst ds
  | .od es => .dk es
  | .ot es => .dt es
def mask (ρ : Ev) : Env := ρ.map fun s => s.bind fun s => match s with | .f d => some d | _ => none
def peek (ρ : Ev) : Env := ρ.map fun s => s.map Sl.data
def Ow (S : Base) (B : Bo S) (G : Hp) : HO → Sl → Prop
  | .lst xs, .o ds => RpA S B G xs ds
  | .dK kvs, .od es => kvs.map (·.1) = es.map (·.1) ∧ RpA S B G (kvs.map (·.2)) (es.map (·.2))
  | .dT kvs, .ot es => kvs.map (·.1) = es.map (·.1) ∧ RpA S B G (kvs.map (·.2)) (es.map (·.2))
  | _, _ => False
theorem Ow.mono {G G' : Hp} (s : Sub G G') {o : HO} {l : Sl} (h : Ow S B G o l) : Ow S B G' o l := by
  cases o <;> cases l <;> first
    | exact h.elim
    | exact RpA.mono s h
    | exact ⟨h.1, h.2.mono s⟩
theorem Ow.rp {G : Hp} {a : Addr} {o : HO} {l : Sl} (hg : G a = some o) (h : Ow S B G o l) : Rp S B G (.ref a) l.data := by
  cases o <;> cases l <;> first
    | exact h.elim
    | exact .lst hg h
    | exact .dk hg h.1 h.2
    | exact .dt hg h.1 h.2
theorem Ow.pl {G : Hp} {o : HO} {l : Sl} (h : Ow S B G o l) : plainO o = true := by
  cases o <;> cases l <;> first
    | exact h.elim
    | rfl
structure RsG (S : Base) (B : Bo S) (H0 G0 : Hp) (σ : L2.St) (H : Hp) (ρ : Ev) (G : Hp) (A : Nat → Addr) : Prop where
  aw : ∀ b q, B.bq = some (b, q) → ∃ o u, H0 b = some (.lst o) ∧ H0 q = some (.lst u)
  ok : Ok B H G
  ch : Ch B H0 G0 H G
  len : ρ.length = σ.length
  fz : ∀ (i : Nat) (d : D), ρ[i]? = some (some (.f d)) → ∃ v, σ[i]? = some (some v) ∧ Rp S B G v d
  ow : ∀ (i : Nat) (s : Sl), ρ[i]? = some (some s) → s.owned = true → σ[i]? = some (some (.ref (A i))) ∧ FrA H0 (A i) ∧ G (A i) = none ∧ ∃ o, H (A i) = some o ∧ Ow S B G o s
  dj : ∀ (i j : Nat) (s t : Sl), ρ[i]? = some (some s) → ρ[j]? = some (some t) → s.owned = true → t.owned = true → i ≠ j → A i ≠ A j
def Rs (S : Base) (B : Bo S) (H0 G0 : Hp) (σ : L2.St) (H : Hp) (ρ : Ev) : Prop := ∃ G A, RsG S B H0 G0 σ H ρ G A
section
variable {H0 G0 H G : Hp} {σ : L2.St} {ρ : Ev} {A : Nat → Addr}
theorem RsG.away (r : RsG S B H0 G0 σ H ρ G A) {a : Addr} (h : FrA H0 a) : ∀ b q, B.bq = some (b, q) → b ≠ a ∧ q ≠ a := fun b q e => by
  obtain ⟨o, u, h1, h2⟩ := r.aw b q e
  exact ⟨h.ne h1 (fun _ z => nomatch z), h.ne h2 (fun _ z => nomatch z)⟩
theorem RsG.nb (r : RsG S B H0 G0 σ H ρ G A) {a : Addr} (h : FrA H0 a) : ∀ q, B.bq ≠ some (a, q) := fun q e => (r.away h a q e).1 rfl
theorem mask_get {ρ : Ev} {i : Nat} {d : D} (h : (mask ρ)[i]? = some (some d)) : ρ[i]? = some (some (.f d)) := by
  unfold mask at h
  rw [List.getElem?_map] at h
  cases e : ρ[i]? with
  | none => rw [e] at h; cases h
  | some o =>
    rw [e] at h
    cases o with
    | none => cases h
    | some s => cases s <;> first | (cases h; rfl) | cases h
theorem peek_get {ρ : Ev} {i : Nat} {d : D} (h : (peek ρ)[i]? = some (some d)) : ∃ s, ρ[i]? = some (some s) ∧ s.data = d := by
  unfold peek at h
  rw [List.getElem?_map] at h
  cases e : ρ[i]? with
  | none => rw [e] at h; cases h
  | some o =>
    rw [e] at h
    cases o with
    | none => cases h
    | some s => cases h; exact ⟨s, rfl, rfl⟩
theorem RsG.mask (r : RsG S B H0 G0 σ H ρ G A) : Er S B G σ (mask ρ) := ⟨by unfold Dv.mask; rw [List.length_map, r.len], fun i d e => r.fz i d (mask_get e)⟩
/-- behind an expression that saw what stays -/
theorem RsG.step (r : RsG S B H0 G0 σ H ρ G A) {H' G' : Hp} (k : Ok B H' G') (c : Ch B H G H' G') : RsG S B H0 G0 σ H' ρ G' A :=
  ⟨r.aw, k, r.ch.trans c, r.len, fun i d e => by
    obtain ⟨v, h1, h2⟩ := r.fz i d e
    exact ⟨v, h1, h2.mono c.ext⟩, fun i s e w => by
    obtain ⟨h1, h2, h3, o, h4, h5⟩ := r.ow i s e w
    obtain ⟨h6, h7⟩ := c.mine h4 h3 h5.pl (r.nb h2)
    exact ⟨h1, h2, h7, o, h6, h5.mono c.ext⟩, r.dj⟩
/-- what is seen with all that is one's own -/
theorem RsG.peek (r : RsG S B H0 G0 σ H ρ G A) : ∃ G1, Ok B H G1 ∧ Er S B G1 σ (peek ρ) ∧ Ch B H0 G0 H G1 ∧ ∀ H' G1', Ok B H' G1' → Ch B H G1 H' G1' → ∃ G', RsG S B H0 G0 σ H' ρ G' A ∧ Sub G G' ∧ Sub G' G1' := by
  classical
  let own : Addr → Prop := fun a => ∃ i s, ρ[i]? = some (some s) ∧ s.owned = true ∧ A i = a
  have og : ∀ a, own a → G a = none := fun a ⟨i, s, e, w, ha⟩ => by
    rw [← ha]; exact (r.ow i s e w).2.2.1
  have oh : ∀ a, own a → FrA H0 a := fun a ⟨i, s, e, w, ha⟩ => by
    rw [← ha]; exact (r.ow i s e w).2.1
  let G1 : Hp := fun a => if own a then H a else G a
  have g1 : ∀ a, own a → G1 a = H a := fun a h => if_pos h
  have g2 : ∀ a, ¬ own a → G1 a = G a := fun a h => if_neg h
  have gs : Sub G G1 := fun a o e => by
    by_cases h : own a
    · rw [og a h] at e; cases e
    · rw [g2 a h]; exact e
  refine ⟨G1, ⟨fun a o e => ?_, fun b q e => ?_, r.ok.bx, r.ok.tb, fun a ps e => ?_⟩, ⟨?_, fun i d e => ?_⟩, ⟨r.ch.ch, r.ch.fr, r.ch.ext.trans gs, fun a o e => ?_⟩, fun H' G1' k c => ?_⟩
  · by_cases h : own a
    · rw [g1 a h] at e; exact e
    · rw [g2 a h] at e; exact r.ok.sub a o e
  · have h : ¬ own b := fun h => r.nb (oh b h) q e
    rw [g2 b h]; exact r.ok.nm b q e
  · by_cases h : own a
    · rw [g1 a h] at e
      obtain ⟨i, s, e1, w, rfl⟩ := h
      obtain ⟨_, _, _, o, h4, h5⟩ := r.ow i s e1 w
      rw [h4] at e
      exact (plainO.nt h5.pl) ps (Option.some.inj e)
    · rw [g2 a h] at e; exact r.ok.nt a ps e
  · unfold Dv.peek; rw [List.length_map, r.len]
  · obtain ⟨s, h1, h2⟩ := peek_get e
    cases hw : s.owned with
    | false =>
      cases s with
      | f d' =>
        obtain ⟨v, h3, h4⟩ := r.fz i d' h1
        cases h2
        exact ⟨v, h3, h4.mono gs⟩
      | _ => cases hw
    | true =>
      obtain ⟨h3, h4, h5, o, h6, h7⟩ := r.ow i s h1 hw
      refine ⟨_, h3, ?_⟩
      rw [← h2]
      exact Ow.rp (by rw [g1 _ ⟨i, s, h1, hw, rfl⟩]; exact h6) (h7.mono gs)
  · by_cases h : own a
    · exact .inr (oh a h)
    · rw [g2 a h] at e; exact r.ch.new a o e
  · let G' : Hp := fun a => if own a then none else G1' a
    have k1 : ∀ a, own a → G' a = none := fun a h => if_pos h
    have k2 : ∀ a, ¬ own a → G' a = G1' a := fun a h => if_neg h
    have gg : Sub G G' := fun a o e => by
      have h : ¬ own a := fun h => by rw [og a h] at e; cases e
      rw [k2 a h]; exact c.ext a o (gs a o e)
    refine ⟨G', ⟨r.aw, ⟨fun a o e => ?_, fun b q e => ?_, k.bx, k.tb, fun a ps e => ?_⟩, ⟨fun a o n z e => c.ch a o n z (r.ch.ch a o n z e), fun a e => r.ch.fr a (c.fr a e), r.ch.ext.trans gg, fun a o e => ?_⟩, r.len, fun i d e => ?_, fun i s e w => ?_, r.dj⟩, gg, fun a o e => ?_⟩
    · by_cases h : own a
      · rw [k1 a h] at e; cases e
      · rw [k2 a h] at e; exact k.sub a o e
    · by_cases h : own b
      · exact k1 b h
      · rw [k2 b h]; exact k.nm b q e
    · by_cases h : own a
      · rw [k1 a h] at e; cases e
      · rw [k2 a h] at e; exact k.nt a ps e
    · by_cases h : own a
      · rw [k1 a h] at e; cases e
      · rw [k2 a h] at e
        rcases c.new a o e with z | z
        · rw [g2 a h] at z; exact r.ch.new a o z
        · exact .inr (r.ch.fr a z)
    · obtain ⟨v, h1, h2⟩ := r.fz i d e
      exact ⟨v, h1, h2.mono gg⟩
    · obtain ⟨h1, h2, h3, o, h4, h5⟩ := r.ow i s e w
      exact ⟨h1, h2, k1 _ ⟨i, s, e, w, rfl⟩, o, c.ch _ _ (r.nb h2) (plainO.nt h5.pl) h4, h5.mono gg⟩
    · by_cases h : own a
      · rw [k1 a h] at e; cases e
      · rw [k2 a h] at e; exact e
theorem get_set {α : Type} {ρ : List α} {i j : Nat} {x y : α} (h : (ρ.set j x)[i]? = some y) : (i = j ∧ y = x) ∨ (i ≠ j ∧ ρ[i]? = some y) := by
  rw [List.getElem?_set] at h
  by_cases e : j = i
  · rw [if_pos e] at h
    split at h
    · cases h; exact .inl ⟨e.symm, rfl⟩
    · cases h
  · rw [if_neg e] at h
    exact .inr ⟨fun z => e z.symm, h⟩
theorem set_get {α : Type} {ρ : List α} {i : Nat} {x : α} (h : i < ρ.length) : (ρ.set i x)[i]? = some x := by
  rw [List.getElem?_set, if_pos rfl, if_pos h]
/-- a name gets data that stays -/
theorem RsG.set (r : RsG S B H0 G0 σ H ρ G A) {v : V} {d : D} (h : Rp S B G v d) (j : Nat) : RsG S B H0 G0 (σ.set j (some v)) H (ρ.set j (some (.f d))) G A := by
  refine ⟨r.aw, r.ok, r.ch, by rw [List.length_set, List.length_set, r.len], fun i e q => ?_, fun i s q w => ?_, fun i i' s t q1 q2 w1 w2 => ?_⟩
  · rcases get_set q with ⟨rfl, z⟩ | ⟨n, q⟩
    · cases z
      have hl : i < σ.length := by
        have := (List.getElem?_eq_some_iff.mp q).1
        rwa [List.length_set, r.len] at this
      exact ⟨v, set_get hl, h⟩
    · obtain ⟨u, h1, h2⟩ := r.fz i e q
      exact ⟨u, by rw [List.getElem?_set, if_neg n.symm]; exact h1, h2⟩
  · rcases get_set q with ⟨rfl, z⟩ | ⟨n, q⟩
    · cases z; cases w
    · obtain ⟨h1, h2⟩ := r.ow i s q w
      exact ⟨by rw [List.getElem?_set, if_neg n.symm]; exact h1, h2⟩
  · rcases get_set q1 with ⟨rfl, z⟩ | ⟨n, q1⟩
    · cases z; cases w1
    · rcases get_set q2 with ⟨rfl, z⟩ | ⟨n2, q2⟩
      · cases z; cases w2
      · exact r.dj i i' s t q1 q2 w1 w2
/-- a name gets an object of one's own -/
theorem RsG.own (r : RsG S B H0 G0 σ H ρ G A) {p : Addr} {o : HO} {s : Sl} (hs : s.owned = true) (h0 : FrA H0 p) (hh : H p = some o) (hg : G p = none) (hw : Ow S B G o s) (nw : ∀ i t, ρ[i]? = some (some t) → t.owned = true → A i ≠ p) (j : Nat) :
    RsG S B H0 G0 (σ.set j (some (.ref p))) H (ρ.set j (some s)) G (fun i => if i = j then p else A i) := by
  refine ⟨r.aw, r.ok, r.ch, by rw [List.length_set, List.length_set, r.len], fun i e q => ?_, fun i t q w => ?_, fun i i' t t' q1 q2 w1 w2 ne => ?_⟩
  · rcases get_set q with ⟨rfl, z⟩ | ⟨n, q⟩
    · cases z; cases hs
    · obtain ⟨u, h1, h2⟩ := r.fz i e q
      exact ⟨u, by rw [List.getElem?_set, if_neg n.symm]; exact h1, h2⟩
  · rcases get_set q with ⟨rfl, z⟩ | ⟨n, q⟩
    · cases z
      have hl : i < σ.length := by
        have := (List.getElem?_eq_some_iff.mp q).1
        rwa [List.length_set, r.len] at this
      simp only [if_true]
      exact ⟨set_get hl, h0, hg, o, hh, hw⟩
    · obtain ⟨h1, h2⟩ := r.ow i t q w
      simp only [if_neg n]
      exact ⟨by rw [List.getElem?_set, if_neg n.symm]; exact h1, h2⟩
  · rcases get_set q1 with ⟨e1, z⟩ | ⟨n, p1⟩
    · rcases get_set q2 with ⟨e2, z2⟩ | ⟨n2, p2⟩
      · exact absurd (e1.trans e2.symm) ne
      · simp only [if_pos e1, if_neg n2]
        exact (nw i' t' p2 w2).symm
    · rcases get_set q2 with ⟨e2, z2⟩ | ⟨n2, p2⟩
      · simp only [if_pos e2, if_neg n]
        exact nw i t p1 w1
      · simp only [if_neg n, if_neg n2]
        exact r.dj i i' t t' p1 p2 w1 w2 ne
/-- an object of one's own is changed -/
theorem RsG.put (r : RsG S B H0 G0 σ H ρ G A) {j : Nat} {s s' : Sl} {o' : HO} (h : ρ[j]? = some (some s)) (w : s.owned = true) (w' : s'.owned = true) (hw : Ow S B G o' s') : RsG S B H0 G0 σ (upd H (A j) o') (ρ.set j (some s')) G A := by
  obtain ⟨h1, h2, h3, o, h4, h5⟩ := r.ow j s h w
  refine ⟨r.aw, r.ok.upd h3 (fun u e => by rw [h4] at e; cases e; exact h5.pl) (r.away h2), r.ch.upd h2, by rw [List.length_set, r.len], fun i e q => ?_, fun i t q wt => ?_, fun i i' t t' q1 q2 w1 w2 ne => ?_⟩
  · rcases get_set q with ⟨rfl, z⟩ | ⟨n, q⟩
    · cases z; cases w'
    · exact r.fz i e q
  · rcases get_set q with ⟨rfl, z⟩ | ⟨n, q⟩
    · cases z
      exact ⟨h1, h2, h3, o', upd_same, hw⟩
    · obtain ⟨e1, e2, e3, u, e4, e5⟩ := r.ow i t q wt
      exact ⟨e1, e2, e3, u, by rw [upd_ne (r.dj i j t s q h wt w n)]; exact e4, e5⟩
  · have hh : ∀ {i : Nat} {t : Sl}, (ρ.set j (some s'))[i]? = some (some t) → t.owned = true → ∃ t2 : Sl, ρ[i]? = some (some t2) ∧ t2.owned = true := fun {i t} q wt => by
      rcases get_set q with ⟨rfl, z⟩ | ⟨n, q⟩
      · exact ⟨s, h, w⟩
      · exact ⟨t, q, wt⟩
    obtain ⟨a, a1, a2⟩ := hh q1 w1
    obtain ⟨b, b1, b2⟩ := hh q2 w2
    exact r.dj i i' a b a1 b1 a2 b2 ne
/-- another part is known to stay -/
theorem RsG.rebase {G1 : Hp} (r : RsG S B H0 G1 σ H ρ G A) (s : Sub G0 G1) (n : ∀ a o, G1 a = some o → G0 a = some o ∨ FrA H0 a) : RsG S B H0 G0 σ H ρ G A :=
  ⟨r.aw, r.ok, ⟨r.ch.ch, r.ch.fr, s.trans r.ch.ext, fun a o e => (r.ch.new a o e).elim (n a o) .inr⟩, r.len, r.fz, r.ow, r.dj⟩
theorem RsG.here (r : RsG S B H0 G0 σ H ρ G A) : RsG S B H0 G σ H ρ G A := ⟨r.aw, r.ok, ⟨r.ch.ch, r.ch.fr, Sub.refl G, fun _ _ e => .inl e⟩, r.len, r.fz, r.ow, r.dj⟩
end
end Dv
namespace Dv
open PySem PySem.Spec PyProof.Rows L2 Sg
variable {S : Base} {B : Bo S} {X : XK}
/-- an error: its word, the name and the value of what it bears -/
structure Exn where
  w : Str
  f : Str
  v : V
/-- what its dict holds: the word alone where it bears nothing else -/
def xdF (x : Exn) : List (Str × V) := if x.f = "word" then [("word", .str x.w)] else [("word", .str x.w), (x.f, x.v)]
theorem xdF_f {x : Exn} (h : x.f ≠ "word") : xdF x = ([("word", .str x.w), (x.f, x.v)] : List (Str × V)) := if_neg h
theorem xdF_w {w : Str} {v : V} : xdF ⟨w, "word", v⟩ = ([("word", .str w)] : List (Str × V)) := if_pos rfl
def RsE {S : Base} (B : Bo S) (H G : Hp) (X : XK) (x : Exn) : Prop := ∀ dd H' G', Ok B H' G' → Ch B H G H' G' → FrA H dd → H' dd = some (.xd (xdF x)) → X (.ref (S.cls x.w)) (some dd) H'
theorem RsE.after {H G H1 G1 : Hp} {X : XK} {x : Exn} (c : Ch B H G H1 G1) (h : RsE B H G X x) : RsE B H1 G1 X x := fun dd H' G' k c' n e => h dd H' G' k (c.trans c') (c.fr _ n) e
/-- how a statement ends -/
inductive Ou where
  | nx (ρ : Ev) | bk (ρ : Ev) | ct (ρ : Ev) | rt (d : D) | rl (ds : List D) | er (x : Exn)
def Fin (S : Base) (X : XK) (B : Bo S) (H0 G0 : Hp) (E : Ends) : Ou → Prop
  | .er x => RsE B H0 G0 X x
  | .nx ρ => ∀ σ H, Rs S B H0 G0 σ H ρ → E.nx σ H
  | .bk ρ => ∀ σ H, Rs S B H0 G0 σ H ρ → E.bk σ H
  | .ct ρ => ∀ σ H, Rs S B H0 G0 σ H ρ → E.ct σ H
  | .rt d => ∀ v H G, Ok B H G → Ch B H0 G0 H G → Rp S B G v d → E.rt v H
  | .rl ds => ∀ p xs H G, FrA H0 p → Ok B H G → Ch B H0 G0 H G → H p = some (.lst xs) → G p = none → RpA S B G xs ds → E.rt (.ref p) H
def SvD (S : Base) (X : XK) (ts : TS) (g : Ev → M Ou) : Prop := ∀ B H0 G0 σ H ρ E, Rs S B H0 G0 σ H ρ → (g ρ).run (Fin S X B H0 G0 E) → ts E σ H
def thenM (g : Ev → M Ou) : Ou → M Ou
  | .nx ρ => g ρ
  | o => M.ret o
theorem sv_seq {t u : TS} {g h : Ev → M Ou} (h1 : SvD S X t g) (h2 : SvD S X u h) : SvD S X (tSeq t u) (fun ρ => M.bnd (g ρ) (thenM h)) := fun B H0 G0 σ H ρ E r q =>
  h1 B H0 G0 σ H ρ _ r ((g ρ).mono (fun o ho => by
    cases o with
    | nx ρ' => exact fun σ' H' r' => h2 B H0 G0 σ' H' ρ' E r' ho
    | _ => exact ho) q)
theorem sv_next : SvD S X tNext (fun ρ => M.ret (.nx ρ)) := fun B H0 G0 σ H ρ E r q => q σ H r
theorem sv_break : SvD S X tBreak (fun ρ => M.ret (.bk ρ)) := fun B H0 G0 σ H ρ E r q => q σ H r
theorem sv_cont : SvD S X tCont (fun ρ => M.ret (.ct ρ)) := fun B H0 G0 σ H ρ E r q => q σ H r
theorem sv_never : SvD S X tNever (fun _ => M.fail) := fun B H0 G0 σ H ρ E r q => q.elim
/-- x = e, of what stays -/
theorem sv_asg {te : TE} {m : Env → M D} {i : Nat} (h : EvD S te m) : SvD S X (tAsg te (gName i)) (fun ρ => M.bnd (m (mask ρ)) fun d => M.ret (.nx (ρ.set i (some (.f d))))) := fun B H0 G0 σ H ρ E ⟨G, A, r⟩ q =>
  h B σ H G (mask ρ) _ r.ok r.mask ((m (mask ρ)).mono (fun d hd v H1 G1 k1 c1 r1 => (show ∀ σ H, Rs S B H0 G0 σ H (ρ.set i (some (.f d))) → E.nx σ H from hd) _ _ ⟨G1, A, (r.step k1 c1).set r1 i⟩) q)
def scD (d : D) : Bool := (vOf d).isSome
theorem rp_sc {G G' : Hp} {v : V} {d : D} (h : scD d = true) (r : Rp S B G v d) : Rp S B G' v d := by
  cases r <;> first
    | exact .non
    | exact .bl _
    | exact .int _
    | exact .str _
    | cases h
/-- x = e, a plain value; all may be looked at -/
theorem sv_asgP {te : TE} {m : Env → M D} {i : Nat} (h : EvD S te m) : SvD S X (tAsg te (gName i)) (fun ρ => M.bnd (m (peek ρ)) fun d => M.bnd (M.req (scD d = true)) fun _ => M.ret (.nx (ρ.set i (some (.f d))))) := fun B H0 G0 σ H ρ E ⟨G, A, r⟩ q => by
  obtain ⟨G1, k, er, _, back⟩ := r.peek
  refine h B σ H G1 (peek ρ) _ k er ((m (peek ρ)).mono (fun d hd v H1 G2 k1 c1 r1 => ?_) q)
  obtain ⟨G', r', _, gs⟩ := back H1 G2 k1 c1
  exact (show ∀ σ H, Rs S B H0 G0 σ H (ρ.set i (some (.f d))) → E.nx σ H from hd.2) _ _ ⟨G', A, r'.set (rp_sc hd.1 r1) i⟩
/-- x = a new list -/
theorem sv_asgL {te : TE} {m : Env → M (List D)} {i : Nat} (h : EvL S te m) : SvD S X (tAsg te (gName i)) (fun ρ => M.bnd (m (mask ρ)) fun ds => M.ret (.nx (ρ.set i (some (.o ds))))) := fun B H0 G0 σ H ρ E ⟨G, A, r⟩ q =>
  h B σ H G (mask ρ) _ r.ok r.mask ((m (mask ρ)).mono (fun ds hd p xs H1 G1 n k1 c1 h1 g1 r1 => by
    have r' := r.step k1 c1
    exact (show ∀ σ H, Rs S B H0 G0 σ H (ρ.set i (some (.o ds))) → E.nx σ H from hd) _ _ ⟨G1, _, r'.own (s := .o ds) rfl (r.ch.fr _ n) h1 g1 r1 (fun j t e w z => by
      obtain ⟨_, _, _, o, ho, hw⟩ := r.ow j t e w
      exact n.ne ho (plainO.nt hw.pl) z) i⟩) q)
/-- a new list, all may be looked at: what is one's own stays so if the items are plain -/
theorem sv_asgLP {te : TE} {m : Env → M (List D)} {i : Nat} (h : EvL S te m) : SvD S X (tAsg te (gName i)) (fun ρ => M.bnd (m (peek ρ)) fun ds => M.bnd (M.req (ds.all scD = true)) fun _ => M.ret (.nx (ρ.set i (some (.o ds))))) := fun B H0 G0 σ H ρ E ⟨G, A, r⟩ q => by
  obtain ⟨G1, k, er, _, back⟩ := r.peek
  refine h B σ H G1 (peek ρ) _ k er ((m (peek ρ)).mono (fun ds hd p xs H1 G2 n k1 c1 h1 g1 r1 => ?_) q)
  obtain ⟨G', r', _, gs⟩ := back H1 G2 k1 c1
  have all : ∀ {xs : List V} {ds : List D}, RpA S B G2 xs ds → ds.all scD = true → RpA S B G' xs ds := by
    intro xs ds ra
    induction ds generalizing xs with
    | nil => intro _; cases ra; exact .nil
    | cons d ds ih =>
      intro hh
      rw [List.all_cons, Bool.and_eq_true] at hh
      cases ra with
      | cons a b => exact .cons (rp_sc hh.1 a) (ih b hh.2)
  have gp : G' p = none := gs.free g1
  exact (show ∀ σ H, Rs S B H0 G0 σ H (ρ.set i (some (.o ds))) → E.nx σ H from hd.2) _ _ ⟨G', _, r'.own (s := .o ds) rfl (r.ch.fr _ n) h1 gp (all r1 hd.1) (fun j t e w z => by
      obtain ⟨_, _, _, o, ho, hw⟩ := r.ow j t e w
      exact n.ne ho (plainO.nt hw.pl) z) i⟩
/-! ### targets of names, once more -/
def EgS (S : Base) (g : TG) (b : D → Ev → M Ev) : Prop := ∀ B H0 G0 σ H ρ G A v d Q, RsG S B H0 G0 σ H ρ G A → Rp S B G v d → (b d ρ).run (fun ρ' => ∀ σ', RsG S B H0 G0 σ' H ρ' G A → Q σ' H) → g v σ H Q
def EgsS (S : Base) (g : TGs) (b : List D → Ev → M Ev) : Prop := ∀ B H0 G0 σ H ρ G A vs ds Q, RsG S B H0 G0 σ H ρ G A → RpA S B G vs ds → (b ds ρ).run (fun ρ' => ∀ σ', RsG S B H0 G0 σ' H ρ' G A → Q σ' H) → g vs σ H Q
def sName (j : Nat) : D → Ev → M Ev := fun d ρ => M.ret (ρ.set j (some (.f d)))
def sNil : List D → Ev → M Ev
  | [], ρ => M.ret ρ
  | _, _ => M.fail
def sCons (b : D → Ev → M Ev) (bs : List D → Ev → M Ev) : List D → Ev → M Ev
  | d :: ds, ρ => M.bnd (b d ρ) fun ρ' => bs ds ρ'
  | [], _ => M.fail
def sTup (n : Nat) (bs : List D → Ev → M Ev) : D → Ev → M Ev
  | .tup ds, ρ => M.bnd (M.req (ds.length = n)) fun _ => bs ds ρ
  | _, _ => M.fail
theorem es_name {j : Nat} : EgS S (gName j) (sName j) := fun B H0 G0 σ H ρ G A v d Q r h q => q _ (r.set h j)
theorem es_nil : EgsS S gNil sNil := fun B H0 G0 σ H ρ G A vs ds Q r h q => by
  cases h with
  | nil => exact ⟨rfl, q σ r⟩
  | cons _ _ => exact q.elim
theorem es_cons {g : TG} {gs : TGs} {b : D → Ev → M Ev} {bs : List D → Ev → M Ev} (h1 : EgS S g b) (h2 : EgsS S gs bs) : EgsS S (gCons g gs) (sCons b bs) := fun B H0 G0 σ H ρ G A vs ds Q r h q => by
  cases h with
  | nil => exact q.elim
  | cons r1 r2 => exact ⟨_, _, rfl, h1 B H0 G0 σ H ρ G A _ _ _ r r1 ((b _ ρ).mono (fun ρ' hρ σ' r' => h2 B H0 G0 σ' H ρ' G A _ _ _ r' r2 hρ) q)⟩
theorem es_tup {n : Nat} {gs : TGs} {bs : List D → Ev → M Ev} (h : EgsS S gs bs) : EgS S (gTup S.K n gs) (sTup n bs) := fun B H0 G0 σ H ρ G A v d Q r hr q => by
  cases hr <;> first
    | exact q.elim
    | (rename_i ha hx
       exact ⟨_, _, rfl, sub_tup r.ok.sub ha, by rw [hx.length]; exact q.1, h B H0 G0 σ H ρ G A _ _ Q r hx q.2⟩)
theorem sv_asgT {te : TE} {m : Env → M D} {g : TG} {b : D → Ev → M Ev} (h : EvD S te m) (hg : EgS S g b) : SvD S X (tAsg te g) (fun ρ => M.bnd (m (mask ρ)) fun d => M.bnd (b d ρ) fun ρ' => M.ret (.nx ρ')) := fun B H0 G0 σ H ρ E ⟨G, A, r⟩ q =>
  h B σ H G (mask ρ) _ r.ok r.mask ((m (mask ρ)).mono (fun d hd v H1 G1 k1 c1 r1 => hg B H0 G0 σ H1 ρ G1 A v d _ (r.step k1 c1) r1 ((b d ρ).mono (fun ρ' hρ σ' r' => (show ∀ σ H, Rs S B H0 G0 σ H ρ' → E.nx σ H from hρ) _ _ ⟨G1, A, r'⟩) hd)) q)
def two (i j : Nat) (ρ : Ev) : List D → M Ou
  | [d, e] => M.ret (.nx ((ρ.set i (some (.f d))).set j (some (.f e))))
  | _ => M.fail
theorem sv_par {i j : Nat} {ta : TA} {m : Env → M (List D)} (h : EvA S ta m) : SvD S X (tPar i j ta) (fun ρ => M.bnd (m (mask ρ)) (two i j ρ)) := fun B H0 G0 σ H ρ E ⟨G, A, r⟩ q =>
  h B σ H G (mask ρ) _ r.ok r.mask ((m (mask ρ)).mono (fun ds hd vs H1 G1 k1 c1 r1 => by
    unfold two at hd
    split at hd
    · cases r1 with
      | cons a b =>
        cases b with
        | cons c d =>
          cases d
          exact ⟨_, _, rfl, (show ∀ σ H, Rs S B H0 G0 σ H _ → E.nx σ H from hd) _ _ ⟨G1, A, ((r.step k1 c1).set a i).set c j⟩⟩
    · exact hd.elim) q)
theorem sv_if {c : TT} {mc : Env → M Bool} {t u : TS} {g h : Ev → M Ou} (hc : EvT S c mc) (h1 : SvD S X t g) (h2 : SvD S X u h) : SvD S X (tIfS c t u) (fun ρ => M.bnd (mc (peek ρ)) fun b => if b = true then g ρ else h ρ) := fun B H0 G0 σ H ρ E ⟨G, A, r⟩ q => by
  obtain ⟨G1, k, er, _, back⟩ := r.peek
  refine hc B σ H G1 (peek ρ) _ k er ((mc (peek ρ)).mono (fun b hb H1 G2 k1 c1 => ?_) q)
  obtain ⟨G', r', _⟩ := back H1 G2 k1 c1
  cases b with
  | true => exact h1 B H0 G0 σ H1 ρ E ⟨G', A, r'⟩ hb
  | false => exact h2 B H0 G0 σ H1 ρ E ⟨G', A, r'⟩ hb
theorem sv_ret {te : TE} {m : Env → M D} (h : EvD S te m) : SvD S X (tRet te) (fun ρ => M.bnd (m (peek ρ)) fun d => M.ret (.rt d)) := fun B H0 G0 σ H ρ E ⟨G, A, r⟩ q => by
  obtain ⟨G1, k, er, c0, back⟩ := r.peek
  exact h B σ H G1 (peek ρ) _ k er ((m (peek ρ)).mono (fun d hd v H1 G2 k1 c1 r1 => (show ∀ v H G, Ok B H G → Ch B H0 G0 H G → Rp S B G v d → E.rt v H from hd) v H1 G2 k1 (c0.trans c1) r1) q)
theorem sv_retL {te : TE} {m : Env → M (List D)} (h : EvL S te m) : SvD S X (tRet te) (fun ρ => M.bnd (m (peek ρ)) fun ds => M.ret (.rl ds)) := fun B H0 G0 σ H ρ E ⟨G, A, r⟩ q => by
  obtain ⟨G1, k, er, c0, back⟩ := r.peek
  exact h B σ H G1 (peek ρ) _ k er ((m (peek ρ)).mono (fun ds hd p xs H1 G2 n k1 c1 h1 g1 r1 => (show ∀ p xs H G, FrA H0 p → Ok B H G → Ch B H0 G0 H G → H p = some (.lst xs) → G p = none → RpA S B G xs ds → E.rt (.ref p) H from hd) p xs H1 G2 (c0.fr _ n) k1 (c0.trans c1) h1 g1 r1) q)
def ownL (ρ : Ev) (i : Nat) : M (List D) := match ρ[i]? with
  | some (some (.o ds)) => M.ret ds
  | _ => M.fail
theorem ownL_run {ρ : Ev} {i : Nat} {Q : List D → Prop} (h : (ownL ρ i).run Q) : ∃ ds, ρ[i]? = some (some (.o ds)) ∧ Q ds := by
  unfold ownL at h
  split at h
  · exact ⟨_, by assumption, h⟩
  · exact h.elim
/-- return x, a list of one's own -/
theorem sv_retV {i : Nat} : SvD S X (tRet (tVar i)) (fun ρ => M.bnd (ownL ρ i) fun ds => M.ret (.rl ds)) := fun B H0 G0 σ H ρ E ⟨G, A, r⟩ q => by
  obtain ⟨ds, e, q⟩ := ownL_run q
  obtain ⟨h1, h2, h3, o, h4, h5⟩ := r.ow i _ e rfl
  cases o <;> first
    | exact h5.elim
    | exact ⟨_, h1, (show ∀ p xs H G, FrA H0 p → Ok B H G → Ch B H0 G0 H G → H p = some (.lst xs) → G p = none → RpA S B G xs ds → E.rt (.ref p) H from q) _ _ H G h2 r.ok r.ch h4 h3 h5⟩
theorem sv_retN : SvD S X tRetN (fun _ => M.ret (.rt .non)) := fun B H0 G0 σ H ρ E ⟨G, A, r⟩ q => (show ∀ v H G, Ok B H G → Ch B H0 G0 H G → Rp S B G v .non → E.rt v H from q) .non H G r.ok r.ch .non
theorem sv_drop {te : TE} {m : Env → M D} (h : EvD S te m) : SvD S X (tDrop te) (fun ρ => M.bnd (m (peek ρ)) fun _ => M.ret (.nx ρ)) := fun B H0 G0 σ H ρ E ⟨G, A, r⟩ q => by
  obtain ⟨G1, k, er, c0, back⟩ := r.peek
  refine h B σ H G1 (peek ρ) _ k er ((m (peek ρ)).mono (fun d hd v H1 G2 k1 c1 r1 => ?_) q)
  obtain ⟨G', r', _⟩ := back H1 G2 k1 c1
  exact (show ∀ σ H, Rs S B H0 G0 σ H ρ → E.nx σ H from hd) _ _ ⟨G', A, r'⟩
/-- x.append(e) -/
theorem sv_app {i : Nat} {te : TE} {m : Env → M D} (h : EvD S te m) : SvD S X (tDrop (tBM S.K "list" rAppend (tVar i) (tCons te tNil))) (fun ρ => M.bnd (ownL ρ i) fun ds => M.bnd (M.req (ds.length < 100000)) fun _ => M.bnd (m (mask ρ)) fun d => M.ret (.nx (ρ.set i (some (.o (ds ++ [d])))))) := fun B H0 G0 σ H ρ E ⟨G, A, r⟩ q => by
  obtain ⟨ds, e, hl, q⟩ := ownL_run q
  obtain ⟨h1, h2, h3, o, h4, h5⟩ := r.ow i _ e rfl
  cases o <;> first
    | exact h5.elim
    | (rename_i xs
       refine ⟨_, h1, .inl ⟨rfl, _, SqL.of h4⟩, ?_⟩
       refine h B σ H G (mask ρ) _ r.ok r.mask ((m (mask ρ)).mono (fun d hd v H1 G1 k1 c1 r1 => ?_) q)
       have r' := r.step k1 c1
       obtain ⟨_, _, _, o', h4', h5'⟩ := r'.ow i _ e rfl
       have h6 := c1.ch _ (.lst xs) (r.nb h2) (fun _ z => nomatch z) h4
       rw [h6] at h4'
       cases h4'
       refine ⟨_, xs, v, rfl, rfl, h6, ?_, (show ∀ σ H, Rs S B H0 G0 σ H _ → E.nx σ H from hd) _ _ ⟨G1, A, r'.put (s' := .o (ds ++ [d])) e rfl rfl (RpA.append h5' (.cons r1 .nil))⟩⟩
       rw [RpA.length h5]
       exact Nat.lt_of_lt_of_le hl (by decide))
theorem sv_appP {i : Nat} {te : TE} {m : Env → M D} (h : EvD S te m) : SvD S X (tDrop (tBM S.K "list" rAppend (tVar i) (tCons te tNil))) (fun ρ => M.bnd (ownL ρ i) fun ds => M.bnd (M.req (ds.length < 100000)) fun _ => M.bnd (m (peek ρ)) fun d => M.bnd (M.req (scD d = true)) fun _ => M.ret (.nx (ρ.set i (some (.o (ds ++ [d])))))) := fun B H0 G0 σ H ρ E ⟨G, A, r⟩ q => by
  obtain ⟨ds, e, hl, q⟩ := ownL_run q
  obtain ⟨h1, h2, h3, o, h4, h5⟩ := r.ow i _ e rfl
  cases o <;> first
    | exact h5.elim
    | (rename_i xs
       refine ⟨_, h1, .inl ⟨rfl, _, SqL.of h4⟩, ?_⟩
       obtain ⟨Gp, kp, er, c0, back⟩ := r.peek
       refine h B σ H Gp (peek ρ) _ kp er ((m (peek ρ)).mono (fun d hd v H1 G1 k1 c1 r1 => ?_) q)
       obtain ⟨G', r', _⟩ := back H1 G1 k1 c1
       obtain ⟨_, _, _, o', h4', h5'⟩ := r'.ow i _ e rfl
       have h6 := c1.ch _ (.lst xs) (r.nb h2) (fun _ z => nomatch z) h4
       rw [h6] at h4'
       cases h4'
       refine ⟨_, xs, v, rfl, rfl, h6, ?_, (show ∀ σ H, Rs S B H0 G0 σ H _ → E.nx σ H from hd.2) _ _ ⟨G', A, r'.put (s' := .o (ds ++ [d])) e rfl rfl (RpA.append h5' (.cons (rp_sc hd.1 r1) .nil))⟩⟩
       rw [RpA.length h5]
       exact Nat.lt_of_lt_of_le hl (by decide))
/-! ### loops -/
def loopM (b : D → Ev → M Ev) (g : Ev → M Ou) : List D → Ev → M Ou
  | [], ρ => M.ret (.nx ρ)
  | d :: ds, ρ => M.bnd (b d ρ) fun ρ1 => M.bnd (g ρ1) fun o => match o with
    | .nx ρ2 => loopM b g ds ρ2
    | .ct ρ2 => loopM b g ds ρ2
    | .bk ρ2 => M.ret (.nx ρ2)
    | .rt d => M.ret (.rt d)
    | .rl l => M.ret (.rl l)
    | .er x => M.ret (.er x)
theorem Fin.base {H0 G0 G1 : Hp} {E : Ends} {o : Ou} (s : Sub G0 G1) (n : ∀ a o, G1 a = some o → G0 a = some o ∨ FrA H0 a) (h : Fin S X B H0 G0 E o) : Fin S X B H0 G1 E o := by
  have cc : ∀ {H G}, Ch B H0 G1 H G → Ch B H0 G0 H G := fun c => ⟨c.ch, c.fr, s.trans c.ext, fun a o e => (c.new a o e).elim (n a o) .inr⟩
  cases o with
  | nx ρ => exact fun σ H ⟨G, A, r⟩ => h σ H ⟨G, A, r.rebase s n⟩
  | bk ρ => exact fun σ H ⟨G, A, r⟩ => h σ H ⟨G, A, r.rebase s n⟩
  | ct ρ => exact fun σ H ⟨G, A, r⟩ => h σ H ⟨G, A, r.rebase s n⟩
  | rt d => exact fun v H G k c r => h v H G k (cc c) r
  | rl l => exact fun p xs H G a k c b d r => h p xs H G a k (cc c) b d r
  | er x => exact fun dd H G k c n e => h dd H G k (cc c) n e
theorem loop_go {J : It} {g : TG} {tb : TS} {b : D → Ev → M Ev} {gb : Ev → M Ou} (hg : EgS S g b) (hb : SvD S X tb gb) {ds : List D} {H0 G1 : Hp} {E : Ends} (wk : WkD S B J G1 ds) {σ : L2.St} {H : Hp} {ρ : Ev} (r : Rs S B H0 G1 σ H ρ) (h : (loopM b gb ds ρ).run (Fin S X B H0 G1 E)) :
    ∃ W : Nat → Nat → L2.St → Hp → Prop, (∃ m, W 0 m σ H) ∧ ∀ i m σ H, W i m σ H → (J.stop i H ∧ E.nx σ H) ∨ (J.go i H ∧ ∃ N : L2.St → Hp → Prop, (∀ σ' H', N σ' H' → ∃ m', m' < m ∧ W (i + 1) m' σ' H') ∧ ∀ x H', J.yld i H x H' → g x σ H' fun σ2 H2 => tb { E with nx := N, ct := N, bk := E.nx } σ2 H2) := by
  refine ⟨fun i m σ L => m = ds.length - i ∧ i ≤ ds.length ∧ ∃ ρ, Rs S B H0 G1 σ L ρ ∧ (loopM b gb (ds.drop i) ρ).run (Fin S X B H0 G1 E), ⟨_, rfl, Nat.zero_le _, ρ, r, h⟩, ?_⟩
  rintro i m σ L ⟨rfl, hi, ρ, ⟨GL, A, r⟩, q⟩
  rcases Nat.lt_or_ge i ds.length with hlt | hge
  · refine .inr ⟨wk.go i L GL r.ok r.ch.ext hlt, fun σ' L' => (i + 1) ≤ ds.length ∧ ∃ ρ, Rs S B H0 G1 σ' L' ρ ∧ (loopM b gb (ds.drop (i + 1)) ρ).run (Fin S X B H0 G1 E), fun σ' L' hh => ⟨_, by omega, rfl, hh⟩, fun x L' y => ?_⟩
    obtain ⟨GY, kY, cY, rY⟩ := wk.yl i L GL x L' r.ok r.ch.ext hlt y
    rw [List.drop_eq_getElem_cons hlt] at q
    refine hg B H0 G1 σ L' ρ GY A x ds[i] _ (r.step kY cY) rY ((b ds[i] ρ).mono (fun ρ1 h1 σ1 r1 => ?_) q)
    refine hb B H0 G1 σ1 L' ρ1 _ ⟨GY, A, r1⟩ ((gb ρ1).mono (fun o ho => ?_) h1)
    cases o with
    | nx ρ2 => exact fun σ2 L2 r2 => ⟨hlt, ρ2, r2, ho⟩
    | ct ρ2 => exact fun σ2 L2 r2 => ⟨hlt, ρ2, r2, ho⟩
    | bk ρ2 => exact ho
    | rt d => exact ho
    | rl l => exact ho
    | er x => exact ho
  · obtain rfl : i = ds.length := by omega
    rw [List.drop_length] at q
    exact .inl ⟨wk.st L GL r.ok r.ch.ext, (show ∀ σ H, Rs S B H0 G1 σ H ρ → E.nx σ H from q) _ _ ⟨GL, A, r⟩⟩
theorem sv_for {wi : TI} {g : TG} {tb : TS} {mi : Env → M (List D)} {b : D → Ev → M Ev} {gb : Ev → M Ou} (hi : EiD S wi mi) (hg : EgS S g b) (hb : SvD S X tb gb) : SvD S X (tFor wi g tb) (fun ρ => M.bnd (mi (mask ρ)) fun ds => loopM b gb ds ρ) := fun B H0 G0 σ H ρ E ⟨G, A, r⟩ q =>
  hi B σ H G (mask ρ) _ r.ok r.mask ((mi (mask ρ)).mono (fun ds hd J H1 G1 k1 c1 wk => by
    have r1 := r.step k1 c1
    exact loop_go hg hb wk ⟨G1, A, r1.here⟩ (M.mono _ (fun o ho => ho.base r1.ch.ext r1.ch.new) hd)) q)
/-- the walk may be over what is one's own and not changed meanwhile: plain items -/
theorem sv_forP {wi : TI} {g : TG} {tb : TS} {mi : Env → M (List D)} {b : D → Ev → M Ev} {gb : Ev → M Ou} (hi : EiD S wi mi) (hg : EgS S g b) (hb : SvD S X tb gb) (hw : ∀ B J G G' ds, WkD S B J G ds → WkD S B J G' ds) : SvD S X (tFor wi g tb) (fun ρ => M.bnd (mi (peek ρ)) fun ds => loopM b gb ds ρ) := fun B H0 G0 σ H ρ E ⟨G, A, r⟩ q => by
  obtain ⟨Gp, kp, er, c0, back⟩ := r.peek
  refine hi B σ H Gp (peek ρ) _ kp er ((mi (peek ρ)).mono (fun ds hd J H1 G1 k1 c1 wk => ?_) q)
  obtain ⟨G', r', _⟩ := back H1 G1 k1 c1
  exact loop_go hg hb (hw _ _ _ _ _ wk) ⟨G', A, r'.here⟩ (M.mono _ (fun o ho => ho.base r'.ch.ext r'.ch.new) hd)
def whileM (mc : Env → M Bool) (g : Ev → M Ou) : Nat → Ev → M Ou
  | 0, _ => M.fail
  | n + 1, ρ => M.bnd (mc (peek ρ)) fun b => if b = true then M.bnd (g ρ) fun o => match o with
    | .nx ρ2 => whileM mc g n ρ2
    | .ct ρ2 => whileM mc g n ρ2
    | .bk ρ2 => M.ret (.nx ρ2)
    | .rt d => M.ret (.rt d)
    | .rl l => M.ret (.rl l)
    | .er x => M.ret (.er x) else M.ret (.nx ρ)
def M.some' {α : Type} (f : Nat → M α) : M α := ⟨fun Q => ∃ n, (f n).run Q, fun h ⟨n, q⟩ => ⟨n, (f n).mono h q⟩⟩
theorem sv_while {c : TT} {tb : TS} {mc : Env → M Bool} {gb : Ev → M Ou} (hc : EvT S c mc) (hb : SvD S X tb gb) : SvD S X (tWhile c tb) (fun ρ => M.some' fun n => whileM mc gb n ρ) := fun B H0 G0 σ H ρ E r ⟨n, q⟩ => by
  refine ⟨fun m σ L => ∃ ρ, Rs S B H0 G0 σ L ρ ∧ (whileM mc gb m ρ).run (Fin S X B H0 G0 E), ⟨n, ρ, r, q⟩, ?_⟩
  rintro m σ L ⟨ρ, ⟨G, A, r⟩, q⟩
  cases m with
  | zero => exact q.elim
  | succ m =>
    obtain ⟨G1, k, er, c0, back⟩ := r.peek
    refine hc B σ L G1 (peek ρ) _ k er ((mc (peek ρ)).mono (fun b hb' L1 G2 k1 c1 => ?_) q)
    obtain ⟨G', r', _⟩ := back L1 G2 k1 c1
    cases b with
    | true =>
      refine ⟨fun σ' L' => ∃ ρ, Rs S B H0 G0 σ' L' ρ ∧ (whileM mc gb m ρ).run (Fin S X B H0 G0 E), fun σ' L' hh => ⟨m, Nat.lt_succ_self _, hh⟩, ?_⟩
      refine hb B H0 G0 σ L1 ρ _ ⟨G', A, r'⟩ ((gb ρ).mono (fun o ho => ?_) hb')
      cases o with
      | nx ρ2 => exact fun σ2 L2 r2 => ⟨ρ2, r2, ho⟩
      | ct ρ2 => exact fun σ2 L2 r2 => ⟨ρ2, r2, ho⟩
      | bk ρ2 => exact ho
      | rt d => exact ho
      | rl l => exact ho
      | er x => exact ho
    | false => exact (show ∀ σ H, Rs S B H0 G0 σ H ρ → E.nx σ H from hb') _ _ ⟨G', A, r'⟩
/-! ### a def -/
def startE (n : Nat) (ds : List D) : Ev := ds.map (fun d => some (.f d)) ++ List.replicate (n - ds.length) none
def outD (P : D → Prop) : Ou → Prop
  | .rt d => P d
  | .rl l => P (.lst l)
  | .nx _ => P .non
  | _ => False
def outL (P : List D → Prop) : Ou → Prop
  | .rl l => P l
  | _ => False
theorem start_rs {N : List Str} {H G : Hp} {vs : List V} {ds : List D} (k : Ok B H G) (r : RpA S B G vs ds) : Rs S B H G (L2.start N vs) H (startE N.length ds) := by
  refine ⟨G, fun _ => 0, fun b q e => ?_, k, Ch.refl, ?_, fun i d e => ?_, fun i s e w => ?_, fun i j s t e1 e2 w1 w2 => ?_⟩
  · obtain ⟨ns, i, r, kk, e1, e2, e3⟩ := k.bx b q e
    exact ⟨_, _, e1, e2⟩
  · unfold L2.start startE
    rw [List.length_append, List.length_append, List.length_map, List.length_map, List.length_replicate, List.length_replicate, r.length]
  · unfold startE at e
    unfold L2.start
    by_cases hi : i < ds.length
    · rw [List.getElem?_append_left (by rw [List.length_map]; exact hi), List.getElem?_map, List.getElem?_eq_getElem hi] at e
      injection e with e
      injection e with e
      injection e with e
      obtain ⟨v, h1, h2⟩ := r.get (i := i) (d := ds[i]) (List.getElem?_eq_getElem hi)
      rw [List.getElem?_append_left (by rw [List.length_map, r.length]; exact hi), List.getElem?_map, h1, ← e]
      exact ⟨v, rfl, h2⟩
    · rw [List.getElem?_append_right (by rw [List.length_map]; omega), List.getElem?_replicate] at e
      split at e <;> cases e
  · exfalso
    unfold startE at e
    by_cases hi : i < ds.length
    · rw [List.getElem?_append_left (by rw [List.length_map]; exact hi), List.getElem?_map, List.getElem?_eq_getElem hi] at e
      injection e with e
      injection e with e
      subst e
      cases w
    · rw [List.getElem?_append_right (by rw [List.length_map]; omega), List.getElem?_replicate] at e
      split at e <;> cases e
  · exfalso
    unfold startE at e1
    by_cases hi : i < ds.length
    · rw [List.getElem?_append_left (by rw [List.length_map]; exact hi), List.getElem?_map, List.getElem?_eq_getElem hi] at e1
      injection e1 with e1
      injection e1 with e1
      subst e1
      cases w1
    · rw [List.getElem?_append_right (by rw [List.length_map]; omega), List.getElem?_replicate] at e1
      split at e1 <;> cases e1
theorem run_D {N : List Str} {t : TS} {g : Ev → M Ou} {f : List D → M D} (h : SvD S X t g) (ref : ∀ ds P, (f ds).run P → (g (startE N.length ds)).run (outD P)) {vs : List V} {H : Hp} {Q : VK} {E : XK} (sp : spD S f vs H Q E) : t { nx := fun _ H' => Q .non H', rt := Q } (L2.start N vs) H := by
  obtain ⟨B, G, ds, k, r, q⟩ := sp
  refine h B H G _ H _ _ (start_rs k r) (M.mono _ (fun o ho => ?_) (ref ds _ q))
  cases o with
  | nx ρ => exact fun σ H' ⟨G', A, r'⟩ => (show Rs1 S B H G Q .non from ho) .non H' G' r'.ok r'.ch .non
  | rt d => exact ho
  | rl l => exact fun p xs H' G' a k' c b d r' => Rs1.frz k ho p xs H' G' a k' c b d r'
  | bk ρ => exact ho.elim
  | ct ρ => exact ho.elim
  | er x => exact ho.elim
theorem run_L {N : List Str} {t : TS} {g : Ev → M Ou} {f : List D → M (List D)} (h : SvD S X t g) (ref : ∀ ds P, (f ds).run P → (g (startE N.length ds)).run (outL P)) {vs : List V} {H : Hp} {Q : VK} {E : XK} (sp : spL S f vs H Q E) : t { nx := fun _ H' => Q .non H', rt := Q } (L2.start N vs) H := by
  obtain ⟨B, G, ds, k, r, q⟩ := sp
  refine h B H G _ H _ _ (start_rs k r) (M.mono _ (fun o ho => ?_) (ref ds _ q))
  cases o with
  | rl l => exact fun p xs H' G' a k' c b d r' => (show Rs2 S B H G Q l from ho) p xs H' G' a k' c b d r'
  | nx ρ => exact ho.elim
  | rt d => exact ho.elim
  | bk ρ => exact ho.elim
  | ct ρ => exact ho.elim
  | er x => exact ho.elim
end Dv
namespace Dv
open PySem PySem.Spec PyProof.Rows L2 Sg
variable {S : Base} {B : Bo S}
/-! ### ties as data -/
def kDd : Key → D
  | .inl i => .int i
  | .inr x => .str x
def tieD (k : Ks) : D := .tup (k.map kDd)
def lD (l : List Ks) : D := .lst (l.map tieD)
def mwD (n : Int) (As Ms : List Ks) : D := .tup [.int n, lD As, lD Ms]
theorem rp_key {G : Hp} (k : Key) : Rp S B G (kV k) (kDd k) := by
  cases k with
  | inl i => exact .int i
  | inr x => exact .str x
theorem rp_keys {G : Hp} : ∀ k : Ks, RpA S B G (k.map kV) (k.map kDd)
  | [] => .nil
  | a :: k => .cons (rp_key a) (rp_keys k)
theorem key_of {G : Hp} {v : V} {k : Key} (h : Rp S B G v (kDd k)) : v = kV k := by
  cases k with
  | inl i => cases h; rfl
  | inr x => cases h; rfl
theorem keys_of {G : Hp} : ∀ {xs : List V} {k : Ks}, RpA S B G xs (k.map kDd) → xs = k.map kV
  | _, [], h => by cases h; rfl
  | _, a :: k, h => by
    cases h with
    | cons h1 h2 => rw [key_of h1, keys_of h2]; rfl
theorem rp_tie {G : Hp} {a : Addr} {k : Ks} (h : SqT S.K G a (k.map kV)) : Rp S B G (.ref a) (tieD k) := .tup h (rp_keys k)
theorem tie_of {G : Hp} {v : V} {k : Ks} (h : Rp S B G v (tieD k)) : ∃ a, v = .ref a ∧ SqT S.K G a (k.map kV) := by
  cases h with
  | tup h r => rw [keys_of r] at h; exact ⟨_, rfl, h⟩
theorem tks_of {G : Hp} : ∀ {xs : List V} {l : List Ks}, RpA S B G xs (l.map tieD) → ∃ ks : List TK, xs = refs ks ∧ (∀ p ∈ ks, SqT S.K G p.1 (p.2.map kV)) ∧ ks.map (·.2) = l
  | _, [], h => by cases h; exact ⟨[], rfl, (fun p hp => nomatch hp), rfl⟩
  | _, k :: l, h => by
    cases h with
    | cons h1 h2 =>
      obtain ⟨a, rfl, ha⟩ := tie_of h1
      obtain ⟨ks, rfl, h3, h4⟩ := tks_of h2
      refine ⟨(a, k) :: ks, rfl, fun p hp => ?_, by rw [List.map_cons, h4]⟩
      rcases List.mem_cons.mp hp with rfl | hp
      · exact ha
      · exact h3 p hp
theorem rp_refs {G : Hp} : ∀ {U : List TK}, (∀ p ∈ U, SqT S.K G p.1 (p.2.map kV)) → RpA S B G (refs U) ((U.map (·.2)).map tieD)
  | [], _ => .nil
  | p :: U, h => .cons (rp_tie (h p (List.mem_cons_self ..))) (rp_refs fun q hq => h q (List.mem_cons_of_mem _ hq))
theorem list_of {G : Hp} {v : V} {l : List Ks} (h : Rp S B G v (lD l)) : ∃ a ks, v = .ref a ∧ G a = some (.lst (refs ks)) ∧ (∀ p ∈ ks, SqT S.K G p.1 (p.2.map kV)) ∧ ks.map (·.2) = l := by
  cases h with
  | lst h r =>
    obtain ⟨ks, rfl, h3, h4⟩ := tks_of r
    exact ⟨_, ks, rfl, h, h3, h4⟩
/-! ### what a call has made -/
def noTab : Option HO → Option HO
  | some (.tbl _) => none
  | o => o
theorem noTab_of {o u : HO} {x : Option HO} (h : noTab x = some u) : x = some u ∧ ∀ ps, u ≠ .tbl ps := by
  unfold noTab at h
  split at h
  · cases h
  · rename_i hn
    refine ⟨h, fun ps z => ?_⟩
    subst z
    exact hn ps h
theorem noTab_go {u : HO} (h : ∀ ps, u ≠ .tbl ps) : noTab (some u) = some u := by
  cases u <;> first | rfl | exact absurd rfl (h _)
def newG (H H' G : Hp) : Hp := fun a => match H a with
  | none => noTab (H' a)
  | some _ => G a
theorem newG_some {H H' G : Hp} {a : Addr} {o : HO} (h : H a = some o) : newG H H' G a = G a := by unfold newG; rw [h]
theorem newG_none {H H' G : Hp} {a : Addr} (h : H a = none) : newG H H' G a = noTab (H' a) := by unfold newG; rw [h]
theorem newG_ok {H H' G : Hp} (k : Ok B H G) (s : ∀ a o, (∀ q, B.bq ≠ some (a, q)) → (∀ ps, o ≠ .tbl ps) → H a = some o → H' a = some o) (fr : ∀ a, FrA H' a → FrA H a) (bx : ∀ b q, B.bq = some (b, q) → BxAt H' b q) (tb : LamX.Tabs S.T H') : Ok B H' (newG H H' G) ∧ Ch B H G H' (newG H H' G) := by
  refine ⟨⟨fun a o e => ?_, fun b q e => ?_, bx, tb, fun a ps e => ?_⟩, ⟨s, fr, fun a o e => ?_, fun a o e => ?_⟩⟩
  · cases h : H a with
    | none => rw [newG_none h] at e; exact (noTab_of (o := o) e).1
    | some u =>
      rw [newG_some h] at e
      refine s a o (fun q z => ?_) (fun ps z => ?_) (k.sub a o e)
      · rw [k.nm a q z] at e; cases e
      · subst z; exact k.nt a ps e
  · obtain ⟨o, ho⟩ := (k.bx b q e).some
    rw [newG_some ho]; exact k.nm b q e
  · cases h : H a with
    | none => rw [newG_none h] at e; exact (noTab_of (o := .tbl ps) e).2 ps rfl
    | some u => rw [newG_some h] at e; exact k.nt a ps e
  · rw [newG_some (k.sub a o e)]; exact e
  · cases h : H a with
    | none => exact .inr (FrA.of h)
    | some u => rw [newG_some h] at e; exact .inl e
theorem newG_same {H H' G : Hp} (k : Ok B H G) (s : Sub H H') : Ok B H' (newG H H' G) ∧ Ch B H G H' (newG H H' G) := newG_ok k (fun a o _ _ e => s a o e) (fun a e => FrA.sub s e) (fun b q e => (k.bx b q e).sub s) (tabs_sub s k.tb)
/-- nothing is made -/
theorem old_ok {H H' G : Hp} (k : Ok B H G) (s : ∀ a o, (∀ q, B.bq ≠ some (a, q)) → (∀ ps, o ≠ .tbl ps) → H a = some o → H' a = some o) (fr : ∀ a, FrA H' a → FrA H a) (bx : ∀ b q, B.bq = some (b, q) → BxAt H' b q) (tb : LamX.Tabs S.T H') : Ok B H' G ∧ Ch B H G H' G :=
  ⟨⟨fun a o e => s a o (fun q z => by rw [k.nm a q z] at e; cases e) (fun ps z => by subst z; exact k.nt a ps e) (k.sub a o e), k.nm, bx, tb, k.nt⟩, ⟨s, fr, Sub.refl G, fun _ _ e => .inl e⟩⟩
/-! ### depth, for _law_same -/
mutual
def D.deep : D → Nat
  | .lst l => deepL l + 1
  | .tup l => deepL l + 1
  | _ => 0
def deepL : List D → Nat
  | [] => 0
  | d :: l => max d.deep (deepL l)
end
mutual
/-- data that can be told apart by the law's own look: no webs, no dicts -/
def D.plain : D → Bool
  | .lst l => plainL l
  | .tup l => plainL l
  | .web _ _ _ => false
  | .dk _ => false
  | .dt _ => false
  | .box => false
  | _ => true
def plainL : List D → Bool
  | [] => true
  | d :: l => d.plain && plainL l
end
mutual
/-- no list or tuple is longer than that -/
def D.thin : D → Bool
  | .lst l => decide (l.length ≤ 100000) && thinL l
  | .tup l => decide (l.length ≤ 100000) && thinL l
  | _ => true
def thinL : List D → Bool
  | [] => true
  | d :: l => d.thin && thinL l
end
end Dv
namespace Dv
open PySem PySem.Spec PyProof.Rows L2 Sg
variable {S : Base} {B : Bo S} {X : XK}
def M.choose {α : Type} (p : α → Prop) : M α := ⟨fun Q => ∃ a, p a ∧ Q a, fun h ⟨a, pa, q⟩ => ⟨a, pa, h a q⟩⟩
/-! ### what may be refused -/
inductive Rx where
  | ok (d : D) | er (x : Exn)
def RsX (S : Base) (B : Bo S) (H G : Hp) (Q : VK) (X : XK) : Rx → Prop
  | .ok d => Rs1 S B H G Q d
  | .er x => RsE B H G X x
theorem RsX.after {H G H1 G1 : Hp} {Q : VK} {r : Rx} (c : Ch B H G H1 G1) (h : RsX S B H G Q X r) : RsX S B H1 G1 Q X r := by
  cases r with
  | ok d => exact Rs1.after c h
  | er x => exact RsE.after c h
def spX (S : Base) (f : List D → M Rx) : Sp := fun vs H Q X => ∃ B G ds, Ok B H G ∧ RpA S B G vs ds ∧ (f ds).run (RsX S B H G Q X)
def EvX (S : Base) (t : XK → TE) (m : Env → M Rx) : Prop := ∀ B σ H G ρ Q X, Ok B H G → Er S B G σ ρ → (m ρ).run (RsX S B H G Q X) → t X σ H Q
theorem ex_call {f : List D → M Rx} {t : TA} {m : Env → M (List D)} (h : EvA S t m) : EvX S (fun E => tCall (spX S f) [] E t) (fun ρ => M.bnd (m ρ) f) := fun B σ H G ρ Q X k er q =>
  h B σ H G ρ _ k er ((m ρ).mono (fun l hl vs H1 G1 k1 c1 r1 => ⟨B, G1, l, k1, by rw [List.append_nil]; exact r1, (f l).mono (fun z hz => hz.after c1) hl⟩) q)
theorem ex_of {te : TE} {m : Env → M D} (h : EvD S te m) : EvX S (fun _ => te) (fun ρ => M.bnd (m ρ) fun d => M.ret (.ok d)) := fun B σ H G ρ Q X k er q => h B σ H G ρ Q k er ((m ρ).mono (fun d hd => hd) q)
theorem ex_meth {f : List D → M Rx} {n : Str} {ta : TE} {ma : Env → M D} {t : TA} {m : Env → M (List D)} (hn : n ∉ (["places", "arrow_rows", "mark_rows", "onward", "backward"] : List Str)) (ho : EvD S ta ma) (h : EvA S t m) : EvX S (fun E => tMeth S.C n (spX S f) [] E ta t) (fun ρ => M.bnd (ma ρ) fun w => M.bnd (asW w) fun w => M.bnd (m ρ) fun l => f (w :: l)) := fun B σ H G ρ Q X k er q =>
  ho B σ H G ρ _ k er ((ma ρ).mono (fun d hd v H1 G1 k1 c1 r1 => by
    obtain ⟨n', As, Ms, rfl, hd⟩ := asW_run hd
    cases r1 with
    | web hw =>
      obtain ⟨dx, fs, h1, h2⟩ := S.ins hw
      refine ⟨_, dx, fs, rfl, k1.sub _ _ h1, h2 n hn, ?_⟩
      refine h B σ H1 G1 ρ _ k1 (er.mono c1.ext) ((m ρ).mono (fun l hl vs H2 G2 k2 c2 r2 => ⟨B, G2, _ :: l, k2, .cons (.web (S.mono c2.ext hw)) (by rw [List.append_nil]; exact r2), (f _).mono (fun z hz => hz.after (c1.trans c2)) hl⟩) hd)) q)
def ouX (ρ : Ev) : Rx → M Ou
  | .ok _ => M.ret (.nx ρ)
  | .er x => M.ret (.er x)
theorem sv_dropX {t : XK → TE} {m : Env → M Rx} (h : EvX S t m) : SvD S X (tDrop (t X)) (fun ρ => M.bnd (m (peek ρ)) (ouX ρ)) := fun B H0 G0 σ H ρ E ⟨G, A, r⟩ q => by
  obtain ⟨G1, k, er, c0, back⟩ := r.peek
  refine h B σ H G1 (peek ρ) _ X k er ((m (peek ρ)).mono (fun d hd => ?_) q)
  cases d with
  | ok d =>
    exact fun v H1 G2 k1 c1 r1 => by
      obtain ⟨G', r', _⟩ := back H1 G2 k1 c1
      exact (show ∀ σ H, Rs S B H0 G0 σ H ρ → E.nx σ H from hd) _ _ ⟨G', A, r'⟩
  | er x => exact fun dd H1 G2 k1 c1 n e => (show RsE B H0 G0 X x from hd) dd H1 G2 k1 (c0.trans c1) (c0.fr _ n) e
def ouR : Rx → M Ou
  | .ok d => M.ret (.rt d)
  | .er x => M.ret (.er x)
theorem sv_retX {t : XK → TE} {m : Env → M Rx} (h : EvX S t m) : SvD S X (tRet (t X)) (fun ρ => M.bnd (m (peek ρ)) ouR) := fun B H0 G0 σ H ρ E ⟨G, A, r⟩ q => by
  obtain ⟨G1, k, er, c0, back⟩ := r.peek
  refine h B σ H G1 (peek ρ) _ X k er ((m (peek ρ)).mono (fun d hd => ?_) q)
  cases d with
  | ok d => exact fun v H1 G2 k1 c1 r1 => (show ∀ v H G, Ok B H G → Ch B H0 G0 H G → Rp S B G v d → E.rt v H from hd) v H1 G2 k1 (c0.trans c1) r1
  | er x => exact fun dd H1 G2 k1 c1 n e => (show RsE B H0 G0 X x from hd) dd H1 G2 k1 (c0.trans c1) (c0.fr _ n) e
def ouS (ρ : Ev) (i : Nat) : Rx → M Ou
  | .ok d => M.ret (.nx (ρ.set i (some (.f d))))
  | .er x => M.ret (.er x)
theorem sv_asgX {t : XK → TE} {m : Env → M Rx} {i : Nat} (h : EvX S t m) : SvD S X (tAsg (t X) (gName i)) (fun ρ => M.bnd (m (mask ρ)) (ouS ρ i)) := fun B H0 G0 σ H ρ E ⟨G, A, r⟩ q =>
  h B σ H G (mask ρ) _ X r.ok r.mask ((m (mask ρ)).mono (fun d hd => by
    cases d with
    | ok d => exact fun v H1 G1 k1 c1 r1 => (show ∀ σ H, Rs S B H0 G0 σ H (ρ.set i (some (.f d))) → E.nx σ H from hd) _ _ ⟨G1, A, (r.step k1 c1).set r1 i⟩
    | er x => exact fun dd H1 G2 k1 c1 n e => (show RsE B H0 G0 X x from hd) dd H1 G2 k1 (r.ch.trans c1) (r.ch.fr _ n) e) q)
def outX (P : Rx → Prop) : Ou → Prop
  | .rt d => P (.ok d)
  | .rl l => P (.ok (.lst l))
  | .nx _ => P (.ok .non)
  | .er x => P (.er x)
  | _ => False
theorem run_X {N : List Str} {t : TS} {g : Ev → M Ou} {f : List D → M Rx} (h : SvD S X t g) (ref : ∀ ds P, (f ds).run P → (g (startE N.length ds)).run (outX P)) {vs : List V} {H : Hp} {Q : VK} (sp : spX S f vs H Q X) : t { nx := fun _ H' => Q .non H', rt := Q } (L2.start N vs) H := by
  obtain ⟨B, G, ds, k, r, q⟩ := sp
  refine h B H G _ H _ _ (start_rs k r) (M.mono _ (fun o ho => ?_) (ref ds _ q))
  cases o with
  | nx ρ => exact fun σ H' ⟨G', A, r'⟩ => (show Rs1 S B H G Q .non from ho) .non H' G' r'.ok r'.ch .non
  | rt d => exact ho
  | rl l => exact fun p xs H' G' a k' c b d r' => Rs1.frz k (show Rs1 S B H G Q (.lst l) from ho) p xs H' G' a k' c b d r'
  | er x => exact ho
  | bk ρ => exact ho.elim
  | ct ρ => exact ho.elim
/-- a call by names -/
theorem ex_callN {f : List D → M Rx} {n k' : Nat} {gV : List V → List V → List V} {gD : List D → List D → List D} {t tk : TA} {m mk : Env → M (List D)} (hg : ∀ {B : Bo S} {G : Hp} {vs zs : List V} {ds es : List D}, RpA S B G vs ds → RpA S B G zs es → ds.length = n → es.length = k' → RpA S B G (gV vs zs) (gD ds es)) (h : EvA S t m) (hk : EvA S tk mk) : EvX S (fun E => tCallN n k' (spX S f) gV E t tk) (fun ρ => M.bnd (m ρ) fun l => M.bnd (mk ρ) fun z => M.bnd (M.req (l.length = n ∧ z.length = k')) fun _ => f (gD l z)) := fun B σ H G ρ Q X k er q =>
  h B σ H G ρ _ k er ((m ρ).mono (fun l hl vs H1 G1 k1 c1 r1 => hk B σ H1 G1 ρ _ k1 (er.mono c1.ext) ((mk ρ).mono (fun z hz zs H2 G2 k2 c2 r2 => ⟨by rw [r1.length]; exact hz.1.1, by rw [r2.length]; exact hz.1.2, B, G2, _, k2, hg (r1.mono c2.ext) r2 hz.1.1 hz.1.2, (f _).mono (fun y hy => hy.after (c1.trans c2)) hz.2⟩) hl)) q)
theorem ed_callN {f : List D → M D} {E : XK} {n k' : Nat} {gV : List V → List V → List V} {gD : List D → List D → List D} {t tk : TA} {m mk : Env → M (List D)} (hg : ∀ {B : Bo S} {G : Hp} {vs zs : List V} {ds es : List D}, RpA S B G vs ds → RpA S B G zs es → ds.length = n → es.length = k' → RpA S B G (gV vs zs) (gD ds es)) (h : EvA S t m) (hk : EvA S tk mk) : EvD S (tCallN n k' (spD S f) gV E t tk) (fun ρ => M.bnd (m ρ) fun l => M.bnd (mk ρ) fun z => M.bnd (M.req (l.length = n ∧ z.length = k')) fun _ => f (gD l z)) := fun B σ H G ρ Q k er q =>
  h B σ H G ρ _ k er ((m ρ).mono (fun l hl vs H1 G1 k1 c1 r1 => hk B σ H1 G1 ρ _ k1 (er.mono c1.ext) ((mk ρ).mono (fun z hz zs H2 G2 k2 c2 r2 => ⟨by rw [r1.length]; exact hz.1.1, by rw [r2.length]; exact hz.1.2, B, G2, _, k2, hg (r1.mono c2.ext) r2 hz.1.1 hz.1.2, (f _).mono (fun y hy => hy.after (c1.trans c2)) hz.2⟩) hl)) q)
/-! ### reckoning with what comes out -/
theorem M.sel_map {α β : Type} {f : α → M (Option β)} {R : α → β → Prop} : ∀ {l : List α}, (∀ a ∈ l, (f a).run fun o => ∃ b, o = some b ∧ R a b) → (M.sel f l).run (Paired R l)
  | [], _ => .nil
  | a :: l, h => (f a).mono (fun o ⟨b, e, hb⟩ => by
      subst e
      exact (M.sel f l).mono (fun bs hbs => .cons hb hbs) (M.sel_map fun x hx => h x (List.mem_cons_of_mem _ hx))) (h a (List.mem_cons_self ..))
/-- what is told of each, whether it is taken or not -/
theorem M.sel_flt {α β : Type} {f : α → M (Option β)} {p : α → Bool} {g : α → β} : ∀ {l : List α}, (∀ a ∈ l, (f a).run fun o => o = if p a = true then some (g a) else none) → (M.sel f l).run fun bs => bs = (l.filter p).map g
  | [], _ => rfl
  | a :: l, h => (f a).mono (fun o e => by
      refine (M.sel f l).mono (fun bs hbs => ?_) (M.sel_flt fun x hx => h x (List.mem_cons_of_mem _ hx))
      subst e hbs
      rw [List.filter_cons]
      cases p a <;> rfl) (h a (List.mem_cons_self ..))
theorem Paired.right {α β : Type} {R : α → β → Prop} {P : β → Prop} (h : ∀ a b, R a b → P b) : ∀ {l : List α} {m : List β}, Paired R l m → ∀ b ∈ m, P b
  | _, _, .nil => fun b hb => nomatch hb
  | _, _, .cons r t => fun b hb => (List.mem_cons.mp hb).elim (fun e => by subst e; exact h _ _ r) (Paired.right h t b)
theorem M.run_mono {α : Type} {m : M α} {P Q : α → Prop} (h : m.run P) (k : ∀ a, P a → Q a) : m.run Q := m.mono k h
end Dv
namespace Dv
open PySem PySem.Spec PyProof.Rows L2 RZ Sg Tm Wb
def WD (K : PySem.W.Frag) (C : Addr) (H : Hp) (x : Addr) (n : Int) (As Ms : List Ks) : Prop := ∃ U V, WX K C H x n U V ∧ U.map (·.2) = As ∧ V.map (·.2) = Ms
abbrev mkS (K : PySem.W.Frag) (C : Addr) (T : List (Addr × Str)) (cls : Str → Addr) : Base where
  K := K
  C := C
  T := T
  cls := cls
  W := WD K C
  mono := fun s ⟨U, V, h, a, b⟩ => ⟨U, V, h.same s, a, b⟩
  ins := fun ⟨U, V, h, _, _⟩ => by
    obtain ⟨dx, pl, ar, mr, ow, bw, h1, _⟩ := h.w.ex
    refine ⟨dx, _, h1, fun m hm => ?_⟩
    simp only [List.mem_cons, List.not_mem_nil, or_false, not_or] at hm
    obtain ⟨e1, e2, e3, e4, e5⟩ := hm
    rw [flds_eq]
    simp only [List.lookup, beq_eq_false_iff_ne.mpr e1, beq_eq_false_iff_ne.mpr e2, beq_eq_false_iff_ne.mpr e3, beq_eq_false_iff_ne.mpr e4, beq_eq_false_iff_ne.mpr e5]
section
variable {P : Program} {w : World} {K : PySem.W.Frag} {mg : Str → Option Value} {base : Heap} {C : Addr} {T : List (Addr × Str)} {cls : Str → Addr}
theorem Df.to {k : Nat} {x : Str} {ps : List Str} {sp sp' : Sp} {f : Addr} {fd : FuncData} (d : Df P w K mg base k x ps sp f fd) (h : ∀ vs H Q E, sp' vs H Q E → sp vs H Q E) : Df P w K mg base k x ps sp' f fd := ⟨d.ok.imp h, d.gl, d.kp, d.bd⟩
theorem box_ok {S : Base} {B : Bo S} {H H' G : Hp} {b q : Addr} (k : Ok B H G) (e : B.bq = some (b, q)) (hb : Bx H' b q) (kp : Kp b H H') : Ok B H' G ∧ Ch B H G H' G := by
  have ne : ∀ {a}, (∀ q, B.bq ≠ some (a, q)) → a ≠ b := fun {a} n z => n q (by rw [z]; exact e)
  refine old_ok k (fun a o n _ h => by rw [kp a (ne n)]; exact h) (fun a h => ?_) (fun b' q' e' => ?_) ?_
  · by_cases z : a = b
    · subst z
      obtain ⟨ns, i, r, kk, e1, _⟩ := hb
      obtain ⟨ps, e2⟩ := h _ e1
      cases e2
    · exact fun o e => h o (by rw [kp a z]; exact e)
  · rw [e] at e'
    cases e'
    exact hb
  · obtain ⟨ns, i, r, kk, e1, _⟩ := k.bx b q e
    exact tabs_but e1 (fun c o n h => by rw [kp c n]; exact h) k.tb
def takeM : List D → M D
  | [.box, .int n] => M.bnd (M.req (0 < n ∧ n < 2 ^ 100)) fun _ => M.bnd (M.all fun v : Int => 0 ≤ v ∧ v < n) fun v => M.ret (.int v)
  | _ => M.fail
theorem sp_take {vs : List V} {H : Hp} {Q : VK} {E : XK} (h : spD (mkS K C T cls) takeM vs H Q E) : spTake vs H Q E := by
  obtain ⟨B, G, ds, k, r, h⟩ := h
  unfold takeM at h
  split at h
  · cases r with
    | cons r1 r2 =>
      cases r1 with
      | box e =>
        cases r2 with
        | cons r2 r3 =>
          cases r2
          cases r3
          refine ⟨_, _, _, rfl, k.bx _ _ e, h.1.1, h.1.2, fun v H' v0 v1 hb kp => ?_⟩
          obtain ⟨k1, c1⟩ := box_ok k e hb kp
          exact (show Rs1 _ B H G Q (.int v) from h.2 v ⟨v0, v1⟩) _ H' G k1 c1 (.int v)
  · exact h.elim
def oneM : List D → M D
  | [.box, .lst ds] => M.bnd (M.req (ds ≠ [] ∧ ds.length ≤ 1000)) fun _ => M.all fun d => d ∈ ds
  | [.box, .str z] => M.bnd (M.req (0 < z.length ∧ z.length ≤ 1000)) fun _ => M.bnd (M.all fun c => c ∈ z.cps.toList) fun c => M.ret (.str ⟨#[c]⟩)
  | _ => M.fail
theorem sp_one {vs : List V} {H : Hp} {Q : VK} {E : XK} (h : spD (mkS K C T cls) oneM vs H Q E) : spOne K vs H Q E := by
  obtain ⟨B, G, ds, k, r, h⟩ := h
  unfold oneM at h
  split at h
  · cases r with
    | cons r1 r2 =>
      cases r1 with
      | box e =>
        cases r2 with
        | cons r2 r3 =>
          cases r3
          cases r2 with
          | lst ha hr =>
            refine .inl ⟨_, _, _, _, rfl, k.bx _ _ e, SqL.of (k.sub _ _ ha), fun z => ?_, fun z => h.1.1 ?_, by rw [hr.length]; exact h.1.2, fun v H' hv hb kp => ?_⟩
            · rw [z, k.nm _ _ e] at ha; cases ha
            · rw [z] at hr; cases hr; rfl
            · obtain ⟨k1, c1⟩ := box_ok k e hb kp
              obtain ⟨i, hi⟩ := List.getElem?_of_mem hv
              obtain ⟨d, h1, h2⟩ := hr.getV hi
              exact (show Rs1 _ B H G Q d from h.2 d (List.mem_of_getElem? h1)) _ H' G k1 c1 h2
  · cases r with
    | cons r1 r2 =>
      cases r1 with
      | box e =>
        cases r2 with
        | cons r2 r3 =>
          cases r3
          cases r2
          refine .inr ⟨_, _, _, rfl, k.bx _ _ e, h.1.1, h.1.2, fun c H' hc hb kp => ?_⟩
          obtain ⟨k1, c1⟩ := box_ok k e hb kp
          exact (show Rs1 _ B H G Q _ from h.2 c hc) _ H' G k1 c1 (.str _)
  · exact h.elim
/-! ### ties sorted, each once -/
structure SrtK (l u : List Ks) : Prop where
  of : ∀ k ∈ u, k ∈ l
  all : ∀ k ∈ l, k ∈ u
  nd : u.Nodup
  ris : u.Pairwise fun p q => TS.code 128 (p.map numK) ≤ TS.code 128 (q.map numK)
theorem srtK_of {ks U : List TK} (h : Srt ks U) : SrtK (ks.map (·.2)) (U.map (·.2)) := by
  refine ⟨fun k hk => ?_, fun k hk => ?_, h.nd, ?_⟩
  · obtain ⟨p, hp, rfl⟩ := List.mem_map.mp hk
    exact List.mem_map.mpr ⟨p, h.of p hp, rfl⟩
  · obtain ⟨p, hp, rfl⟩ := List.mem_map.mp hk
    exact h.all p hp
  · rw [List.pairwise_map]
    exact h.ris
def unlM : List D → M (List D)
  | [.lst es] => M.bnd (M.choose fun l : List Ks => es = l.map tieD ∧ (∃ d, ∀ k ∈ l, TieK 128 d k) ∧ l.length < 4000) fun l => M.bnd (M.all fun u => SrtK l u) fun u => M.ret (u.map tieD)
  | _ => M.fail
theorem sp_unl {vs : List V} {H : Hp} {Q : VK} {E : XK} (h : spL (mkS K C T cls) unlM vs H Q E) : spUnl K vs H Q E := by
  obtain ⟨B, G, ds, k, r, h⟩ := h
  unfold unlM at h
  split at h
  · obtain ⟨l, ⟨rfl, ⟨d, hd⟩, h64⟩, h⟩ := h
    cases r with
    | cons r1 r2 =>
      cases r2
      obtain ⟨a, ks, rfl, h1, h2, h3⟩ := list_of (l := l) r1
      subst h3
      refine ⟨a, ks, d, rfl, k.sub _ _ h1, fun p hp => sub_tup k.sub (h2 p hp), fun p hp => hd _ (List.mem_map.mpr ⟨p, hp, rfl⟩), by rw [List.length_map] at h64; exact h64, fun p U H' np hp hs sm => ?_⟩
      obtain ⟨k1, c1⟩ := old_ok k (fun a o _ _ e => sm a o e) (fun a e => FrA.sub (show Sub H H' from sm) e) (fun b q e => (k.bx b q e).sub sm) (tabs_sub sm k.tb)
      exact (show Rs2 _ B H G Q ((U.map (·.2)).map tieD) from h _ (srtK_of hs)) p _ H' G (FrA.of np) k1 c1 hp (k.sub.free np) (rp_refs fun z hz => h2 z (hs.of z hz))
  · exact h.elim
/-! ### a web made -/
def GoodW (n : Int) (As Ms : List Ks) : Prop := 0 ≤ n ∧ n ≤ 81 ∧ (∀ k ∈ As, AK n k) ∧ (∀ k ∈ Ms, MK n k) ∧ As.length < 4000 ∧ Ms.length < 4000
def mkM (n : Int) (es fs : List D) : M D :=
  M.bnd (M.choose fun p : List Ks × List Ks => es = p.1.map tieD ∧ fs = p.2.map tieD ∧ GoodW n p.1 p.2) fun p => M.bnd (M.all fun u : List Ks × List Ks => SrtK p.1 u.1 ∧ SrtK p.2 u.2) fun u => M.ret (.web n u.1 u.2)
theorem mk_D {S : Base} (hS : S = mkS K C T cls) {B : Bo S} {H G : Hp} (k : Ok B H G) {Q : VK} {n : Int} {es fs : List D} (h : (mkM n es fs).run (Rs1 S B H G Q)) {va vm : V} (ra : Rp S B G va (.lst es)) (rm : Rp S B G vm (.lst fs)) {x dx : Addr} (nx : H x = none) (ndx : H dx = none) (ne : dx ≠ x) {E : XK} : spInit K C [.ref x, .int n, va, vm] (upd (upd H dx (.own x)) x (.ins C dx [])) (fun v H3 => v = .non ∧ Q (.ref x) H3) E := by
  subst hS
  obtain ⟨⟨la, lm⟩, ⟨rfl, rfl, h0, h1, gA, gM, l1, l2⟩, h⟩ := h
  obtain ⟨a, ka, rfl, e1, e2, rfl⟩ := list_of (l := la) ra
  obtain ⟨m, km, rfl, f1, f2, rfl⟩ := list_of (l := lm) rm
  have gA' : ∀ p ∈ ka, AK n p.2 := fun p hp => gA _ (List.mem_map.mpr ⟨p, hp, rfl⟩)
  have gM' : ∀ p ∈ km, MK n p.2 := fun p hp => gM _ (List.mem_map.mpr ⟨p, hp, rfl⟩)
  rw [List.length_map] at l1 l2
  refine mk_use nx ndx ne h0 h1 ⟨.inl (SqL.of (k.sub _ _ e1)), fun p hp => sub_tup k.sub (e2 p hp)⟩ gA' l1 ⟨.inl (SqL.of (k.sub _ _ f1)), fun p hp => sub_tup k.sub (f2 p hp)⟩ gM' l2 fun J' As Ms W sA sM sm => ?_
  obtain ⟨k1, c1⟩ := newG_same k (show Sub H J' from sm)
  have w1 : WebAt C (fun a => match H a with | none => J' a | some _ => newG H J' G a) x n As Ms := W _ fun c o hc he => by
    show (match H c with | none => J' c | some _ => _) = _
    rw [hc]; exact he
  have w2 : WebAt C (newG H J' G) x n As Ms := w1.extN fun b o hb hn => by
    cases hh : H b with
    | none =>
      simp only [hh] at hb
      rw [newG_none hh, hb]
      exact noTab_go hn
    | some u =>
      simp only [hh] at hb
      exact hb
  have b1 := sA.len
  have b2 := sM.len
  exact (show Rs1 _ B H G Q (.web n (As.map (·.2)) (Ms.map (·.2))) from h (As.map (fun p : TK => p.2), Ms.map (fun p : TK => p.2)) ⟨srtK_of sA, srtK_of sM⟩) _ J' _ k1 c1 (.web ⟨As, Ms, ⟨w2, fun z hz => sub_tup c1.ext (e2 z (sA.of z hz)), fun z hz => sub_tup c1.ext (f2 z (sM.of z hz)), fun z hz => gA' z (sA.of z hz), fun z hz => gM' z (sM.of z hz), by omega, by omega, h0, h1⟩, rfl, rfl⟩)
def mk2 : List D → List D → M D
  | [.int n], [.lst es, .lst fs] => mkM n es fs
  | _, _ => M.fail
/-- Web(n, arrows=.., marks=..) -/
theorem ed_mk2 {E : XK} {t tk : TA} {m mk : Env → M (List D)} (h : EvA (mkS K C T cls) t m) (hk : EvA (mkS K C T cls) tk mk) : EvD (mkS K C T cls) (tMakeK C 1 (["arrows", "marks"] : List Str).length (spInit K C) (fun vs zs => g2 vs [] zs) E t tk) (fun ρ => M.bnd (m ρ) fun l => M.bnd (mk ρ) fun z => mk2 l z) := fun B σ H G ρ Q k er q =>
  h B σ H G ρ _ k er ((m ρ).mono (fun l hl vs H1 G1 k1 c1 r1 => hk B σ H1 G1 ρ _ k1 (er.mono c1.ext) ((mk ρ).mono (fun z hz zs H2 G2 k2 c2 r2 => by
    have hz : (mk2 l z).run (Rs1 (mkS K C T cls) B H G Q) := hz
    unfold mk2 at hz
    split at hz
    · have r1' := r1.mono c2.ext
      cases r1' with
      | cons a b =>
        cases a
        cases b
        cases r2 with
        | cons a b =>
          cases b with
          | cons b c =>
            cases c
            exact ⟨rfl, rfl, fun x dx nx ndx ne => mk_D rfl k2 (M.mono _ (fun y hy => Rs1.after (c1.trans c2) hy) hz) a b nx ndx ne⟩
    · exact hz.elim) hl)) q)
/-! ### what a web tells -/
def ptsM : List D → M D
  | [.web n _ _] => M.ret (.int n)
  | _ => M.fail
def arrM : List D → M (List D)
  | [.web _ As _] => M.ret (As.map tieD)
  | _ => M.fail
def mrkM : List D → M (List D)
  | [.web _ _ Ms] => M.ret (Ms.map tieD)
  | _ => M.fail
theorem sp_pts {vs : List V} {H : Hp} {Q : VK} {E : XK} (h : spD (mkS K C T cls) ptsM vs H Q E) : spPts C vs H Q E := by
  obtain ⟨B, G, ds, k, r, h⟩ := h
  unfold ptsM at h
  split at h
  · cases r with
    | cons r1 r2 =>
      cases r2
      cases r1 with
      | web hw =>
        obtain ⟨U, V, w, e1, e2⟩ := hw
        exact ⟨_, _, U, V, rfl, (w.same k.sub).w, w.n0, Rs1.now k h (.int _)⟩
  · exact h.elim
theorem sp_arr {vs : List V} {H : Hp} {Q : VK} {E : XK} (h : spL (mkS K C T cls) arrM vs H Q E) : spArr C vs H Q E := by
  obtain ⟨B, G, ds, k, r, h⟩ := h
  unfold arrM at h
  split at h
  · cases r with
    | cons r1 r2 =>
      cases r2
      cases r1 with
      | web hw =>
        obtain ⟨U, V, w, rfl, e2⟩ := hw
        exact ⟨_, _, U, V, rfl, (w.same k.sub).w, fun p hp => Rs2.lay k h (rp_refs w.qa) hp⟩
  · exact h.elim
theorem sp_mrk {vs : List V} {H : Hp} {Q : VK} {E : XK} (h : spL (mkS K C T cls) mrkM vs H Q E) : spMrk C vs H Q E := by
  obtain ⟨B, G, ds, k, r, h⟩ := h
  unfold mrkM at h
  split at h
  · cases r with
    | cons r1 r2 =>
      cases r2
      cases r1 with
      | web hw =>
        obtain ⟨U, V, w, e1, rfl⟩ := hw
        exact ⟨_, _, U, V, rfl, (w.same k.sub).w, fun p hp => Rs2.lay k h (rp_refs w.qm) hp⟩
  · exact h.elim
/-! ### the law's own look -/
theorem sv_plain {S : Base} {B : Bo S} {G H : Hp} (s : Sub G H) (hK : S.K = K) : ∀ (n : Nat) {v u : V} {d : D}, d.deep ≤ n → d.plain = true → d.thin = true → Rp S B G v d → Rp S B G u d → Sv K H n v u := by
  subst hK
  intro n
  induction n with
  | zero =>
    intro v u d h1 h2 h3 r1 r2
    cases r1 <;> cases r2 <;> first
      | exact ⟨rfl, rfl⟩
      | cases h2
      | (simp only [D.deep] at h1; omega)
  | succ n ih =>
    intro v u d h1 h2 h3 r1 r2
    have all : ∀ {xs ys : List V} {ds : List D}, deepL ds ≤ n → plainL ds = true → thinL ds = true → RpA S B G xs ds → RpA S B G ys ds → Paired (Sv S.K H n) xs ys := by
      intro xs ys ds
      induction ds generalizing xs ys with
      | nil => intro _ _ _ a b; cases a; cases b; exact .nil
      | cons d ds ih2 =>
        intro g1 g2 g3 a b
        simp only [deepL, plainL, thinL, Bool.and_eq_true] at g1 g2 g3
        cases a with
        | cons a1 a2 =>
          cases b with
          | cons b1 b2 => exact .cons (ih (by omega) g2.1 g3.1 a1 b1) (ih2 (by omega) g2.2 g3.2 a2 b2)
    cases r1 with
    | lst ha hr =>
      cases r2 with
      | lst hb hs =>
        simp only [D.deep, D.plain, D.thin, Bool.and_eq_true, decide_eq_true_eq] at h1 h2 h3
        exact .inr ⟨_, _, _, _, rfl, rfl, .inl ⟨SqL.of (s _ _ ha), SqL.of (s _ _ hb)⟩, by rw [hr.length]; exact h3.1, all (by omega) h2 h3.2 hr hs⟩
    | tup ha hr =>
      cases r2 with
      | tup hb hs =>
        simp only [D.deep, D.plain, D.thin, Bool.and_eq_true, decide_eq_true_eq] at h1 h2 h3
        exact .inr ⟨_, _, _, _, rfl, rfl, .inr ⟨sub_tup s ha, sub_tup s hb⟩, by rw [hr.length]; exact h3.1, all (by omega) h2 h3.2 hr hs⟩
    | non => cases r2; exact .inl ⟨rfl, rfl⟩
    | bl b => cases r2; exact .inl ⟨rfl, rfl⟩
    | int i => cases r2; exact .inl ⟨rfl, rfl⟩
    | str x => cases r2; exact .inl ⟨rfl, rfl⟩
    | web _ => cases h2
    | dk _ _ _ => cases h2
    | dt _ _ _ => cases h2
    | box _ => cases h2
def sameM (n : Nat) : List D → M D
  | [x, y] => M.bnd (M.req (x = y ∧ y.deep ≤ n ∧ y.plain = true ∧ y.thin = true)) fun _ => M.ret (.bl true)
  | _ => M.fail
theorem sp_same {n : Nat} {vs : List V} {H : Hp} {Q : VK} {E : XK} (h : spD (mkS K C T cls) (sameM n) vs H Q E) : spSame K n vs H Q E := by
  obtain ⟨B, G, ds, k, r, h⟩ := h
  unfold sameM at h
  split at h
  · cases r with
    | cons r1 r2 =>
      cases r2 with
      | cons r2 r3 =>
        cases r3
        obtain ⟨rfl, h1, h2, h3⟩ := h.1
        refine ⟨_, _, rfl, sv_plain k.sub rfl n h1 h2 h3 r1 r2, fun H' sm => ?_⟩
        obtain ⟨k1, c1⟩ := old_ok k (fun a o _ _ e => sm a o e) (fun a e => FrA.sub (show Sub H H' from sm) e) (fun b q e => (k.bx b q e).sub sm) (tabs_sub sm k.tb)
        exact (show Rs1 _ B H G Q (.bl true) from h.2) _ H' G k1 c1 (.bl true)
  · exact h.elim
end
end Dv
namespace Dv
open PySem PySem.Spec PyProof.Rows L2 Sg
/-! ### reading what comes out, by rewriting -/
section
variable {α β : Type}
theorem run_bnd (m : M α) (f : α → M β) (Q : β → Prop) : (M.bnd m f).run Q = m.run fun a => (f a).run Q := rfl
theorem run_ret (a : α) (Q : α → Prop) : (M.ret a).run Q = Q a := rfl
theorem run_opt (a : α) (Q : α → Prop) : (M.opt (some a)).run Q = Q a := rfl
theorem run_req (p : Prop) (Q : Unit → Prop) : (M.req p).run Q = (p ∧ Q ()) := rfl
theorem run_all (p : α → Prop) (Q : α → Prop) : (M.all p).run Q = ∀ a, p a → Q a := rfl
theorem run_choose (p : α → Prop) (Q : α → Prop) : (M.choose p).run Q = ∃ a, p a ∧ Q a := rfl
theorem run_ite (c : Prop) [Decidable c] (m n : M α) (Q : α → Prop) : (if c then m else n).run Q = if c then m.run Q else n.run Q := by split <;> rfl
end
theorem then_nx (g : Ev → M Ou) (ρ : Ev) : thenM g (.nx ρ) = g ρ := rfl
theorem then_rt (g : Ev → M Ou) (d : D) : thenM g (.rt d) = M.ret (.rt d) := rfl
theorem then_rl (g : Ev → M Ou) (l : List D) : thenM g (.rl l) = M.ret (.rl l) := rfl
theorem then_er (g : Ev → M Ou) (x : Exn) : thenM g (.er x) = M.ret (.er x) := rfl
theorem then_ct (g : Ev → M Ou) (ρ : Ev) : thenM g (.ct ρ) = M.ret (.ct ρ) := rfl
theorem then_bk (g : Ev → M Ou) (ρ : Ev) : thenM g (.bk ρ) = M.ret (.bk ρ) := rfl
theorem outD_rt (P : D → Prop) (d : D) : outD P (.rt d) = P d := rfl
theorem outD_rl (P : D → Prop) (l : List D) : outD P (.rl l) = P (.lst l) := rfl
theorem outD_nx (P : D → Prop) (ρ : Ev) : outD P (.nx ρ) = P .non := rfl
theorem outL_rl (P : List D → Prop) (l : List D) : outL P (.rl l) = P l := rfl
theorem outX_rt (P : Rx → Prop) (d : D) : outX P (.rt d) = P (.ok d) := rfl
theorem outX_rl (P : Rx → Prop) (l : List D) : outX P (.rl l) = P (.ok (.lst l)) := rfl
theorem outX_nx (P : Rx → Prop) (ρ : Ev) : outX P (.nx ρ) = P (.ok .non) := rfl
theorem outX_er (P : Rx → Prop) (x : Exn) : outX P (.er x) = P (.er x) := rfl
def pk (s : Option Sl) : Option D := s.map Sl.data
def mk0 (s : Option Sl) : Option D := s.bind fun s => match s with | .f d => some d | _ => none
theorem mask_nil : mask [] = [] := rfl
theorem mask_cons (s : Option Sl) (ρ : Ev) : mask (s :: ρ) = mk0 s :: mask ρ := rfl
theorem mk0_f (d : D) : mk0 (some (.f d)) = some d := rfl
theorem mk0_o (l : List D) : mk0 (some (.o l)) = none := rfl
theorem mk0_od (l : List (Key × D)) : mk0 (some (.od l)) = none := rfl
theorem mk0_ot (l : List (Ks × D)) : mk0 (some (.ot l)) = none := rfl
theorem mk0_n : mk0 none = none := rfl
theorem peek_nil : peek [] = [] := rfl
theorem peek_cons (s : Option Sl) (ρ : Ev) : peek (s :: ρ) = pk s :: peek ρ := rfl
theorem pk_f (d : D) : pk (some (.f d)) = some d := rfl
theorem pk_o (l : List D) : pk (some (.o l)) = some (.lst l) := rfl
theorem pk_od (l : List (Key × D)) : pk (some (.od l)) = some (.dk l) := rfl
theorem pk_ot (l : List (Ks × D)) : pk (some (.ot l)) = some (.dt l) := rfl
theorem pk_n : pk none = none := rfl
theorem dOf_int (i : Int) : dOf (.int i) = some (.int i) := rfl
theorem dOf_bl (b : Bool) : dOf (.bl b) = some (.bl b) := rfl
theorem dOf_str (x : Str) : dOf (.str x) = some (.str x) := rfl
theorem dOf_non : dOf .non = some .non := rfl
theorem opI0_int (g : Int → Int → V) (i j : Int) : opI0 g (.int i) (.int j) = M.opt (dOf (g i j)) := rfl
theorem opI_int (C : Int → Int → Prop) (g : Int → Int → V) (i j : Int) : opI C g (.int i) (.int j) = M.bnd (M.req (C i j)) fun _ => M.opt (dOf (g i j)) := rfl
theorem unI_int (g : Int → V) (i : Int) : unI g (.int i) = M.opt (dOf (g i)) := rfl
theorem asB_bl (b : Bool) : asB (.bl b) = M.ret b := rfl
theorem asI_int (i : Int) : asI (.int i) = M.ret i := rfl
theorem asL_lst (l : List D) : asL (.lst l) = M.ret l := rfl
theorem asT_tup (l : List D) : asT (.tup l) = M.ret l := rfl
theorem asW_web (n : Int) (As Ms : List Ks) : asW (.web n As Ms) = M.ret (.web n As Ms) := rfl
theorem eqS_int (i j : Int) : eqS (.int i) (.int j) = M.ret (decide (i = j)) := by
  unfold eqS vOf eqO
  show (⟨_, _⟩ : M Bool) = ⟨_, _⟩
  congr 1
  funext Q
  show (scal (.int i) (.int j) = true ∧ Q (decide (V.int i = V.int j))) = Q (decide (i = j))
  have : decide (V.int i = V.int j) = decide (i = j) := by
    rw [Bool.eq_iff_iff, decide_eq_true_eq, decide_eq_true_eq]
    exact ⟨V.int.inj, fun h => by rw [h]⟩
  rw [this]
  exact propext ⟨fun h => h.2, fun h => ⟨rfl, h⟩⟩
theorem eqS_str (i j : Str) : eqS (.str i) (.str j) = M.ret (decide (i = j)) := by
  unfold eqS vOf eqO
  show (⟨_, _⟩ : M Bool) = ⟨_, _⟩
  congr 1
  funext Q
  show (scal (.str i) (.str j) = true ∧ Q (decide (V.str i = V.str j))) = Q (decide (i = j))
  have : decide (V.str i = V.str j) = decide (i = j) := by
    rw [Bool.eq_iff_iff, decide_eq_true_eq, decide_eq_true_eq]
    exact ⟨V.str.inj, fun h => by rw [h]⟩
  rw [this]
  exact propext ⟨fun h => h.2, fun h => ⟨rfl, h⟩⟩
theorem ixL_lst (l : List D) (i : Int) : ixL (.lst l) (.int i) = M.opt (L2.atI l i) := rfl
theorem ixT_tup (l : List D) (i : Int) : ixT (.tup l) (.int i) = M.opt (L2.atI l i) := rfl
theorem ixQ_lst (l : List D) (i : Int) : ixQ (.lst l) (.int i) = M.opt (L2.atI l i) := rfl
theorem ixQ_tup (l : List D) (i : Int) : ixQ (.tup l) (.int i) = M.opt (L2.atI l i) := rfl
theorem lenD_lst (l : List D) : lenD [.lst l] = M.ret (.int (l.length : Int)) := rfl
theorem lenD_tup (l : List D) : lenD [.tup l] = M.ret (.int (l.length : Int)) := rfl
theorem listD_lst (l : List D) : listD [.lst l] = M.ret l := rfl
theorem listD_tup (l : List D) : listD [.tup l] = M.ret l := rfl
theorem catD_lst (a b : List D) : catD (.lst a) (.lst b) = M.bnd (M.req (a.length + b.length ≤ 100000)) fun _ => M.ret (a ++ b) := rfl
theorem rng1_int (j : Int) : rng1 [.int j] = M.bnd (M.req (-(2 ^ 62) ≤ j ∧ j < 2 ^ 62)) fun _ => M.ret (rngD 0 j.toNat) := rfl
theorem rng2_int (i j : Int) : rng2 [.int i, .int j] = M.bnd (M.req (-(2 ^ 62) ≤ i ∧ i < 2 ^ 62 ∧ -(2 ^ 62) ≤ j ∧ j < 2 ^ 62)) fun _ => M.ret (rngD i (j - i).toNat) := rfl
theorem sName_go (j : Nat) (d : D) (ρ : Ev) : sName j d ρ = M.ret (ρ.set j (some (.f d))) := rfl
theorem sTup_go (n : Nat) (bs : List D → Ev → M Ev) (l : List D) (ρ : Ev) : sTup n bs (.tup l) ρ = M.bnd (M.req (l.length = n)) fun _ => bs l ρ := rfl
theorem sCons_go (b : D → Ev → M Ev) (bs : List D → Ev → M Ev) (d : D) (l : List D) (ρ : Ev) : sCons b bs (d :: l) ρ = M.bnd (b d ρ) fun ρ' => bs l ρ' := rfl
theorem sNil_go (ρ : Ev) : sNil [] ρ = M.ret ρ := rfl
theorem bTup_go (n : Nat) (bs : List D → Env → M Env) (l : List D) (ρ : Env) : bTup n bs (.tup l) ρ = M.bnd (M.req (l.length = n)) fun _ => bs l ρ := rfl
theorem bCons_go (b : D → Env → M Env) (bs : List D → Env → M Env) (d : D) (l : List D) (ρ : Env) : bCons b bs (d :: l) ρ = M.bnd (b d ρ) fun ρ' => bs l ρ' := rfl
theorem bNil_go (ρ : Env) : bNil [] ρ = M.ret ρ := rfl
theorem two_go (i j : Nat) (ρ : Ev) (d e : D) : two i j ρ [d, e] = M.ret (.nx ((ρ.set i (some (.f d))).set j (some (.f e)))) := rfl
theorem own_go (ρ : Ev) (i : Nat) (l : List D) (h : ρ[i]? = some (some (.o l))) : ownL ρ i = M.ret l := by unfold ownL; rw [h]
theorem atI_0 {α : Type} (x : α) (l : List α) : L2.atI (x :: l) 0 = some x := by
  unfold L2.atI ixN
  rw [if_pos (by decide), if_pos (by simp only [List.length_cons]; omega)]
  rfl
theorem atI_1 {α : Type} (x y : α) (l : List α) : L2.atI (x :: y :: l) 1 = some y := by
  unfold L2.atI ixN
  rw [if_pos (by decide), if_pos (by simp only [List.length_cons]; omega)]
  rfl
theorem atI_2 {α : Type} (x y z : α) (l : List α) : L2.atI (x :: y :: z :: l) 2 = some z := by
  unfold L2.atI ixN
  rw [if_pos (by decide), if_pos (by simp only [List.length_cons]; omega)]
  rfl
theorem ex_ret {α : Type} {m : M α} {P : α → Prop} (h : m.run P) {Q : α → Prop} (k : ∀ a, P a → Q a) : m.run Q := m.mono k h
end Dv
namespace Dv
open PySem PySem.Spec PyProof.Rows L2 Sg
variable {S : Base} {B : Bo S}
mutual
def D.py : D → PyData
  | .non => .none
  | .bl b => .bool b
  | .int i => .int i
  | .str x => .str x
  | .lst l => .list (pyL l)
  | .tup l => .tuple (pyL l)
  | _ => .none
def pyL : List D → List PyData
  | [] => []
  | d :: l => d.py :: pyL l
end
mutual
theorem dp_of {G H : Hp} (s : Sub G H) : ∀ {v : V} {d : D}, d.plain = true → Rp S B G v d → Dp S.K H v d.py
  | _, _, _, .non => .non
  | _, _, _, .bl b => .bl b
  | _, _, _, .int i => .int i
  | _, _, _, .str x => .str x
  | _, _, p, .lst h r => .lst (SqL.of (s _ _ h)) (dp_ofA s (by simpa only [D.plain] using p) r)
  | _, _, p, .tup h r => .tup (sub_tup s h) (dp_ofA s (by simpa only [D.plain] using p) r)
  | _, _, p, .web _ => by simp only [D.plain] at p; cases p
  | _, _, p, .dk _ _ _ => by simp only [D.plain] at p; cases p
  | _, _, p, .dt _ _ _ => by simp only [D.plain] at p; cases p
  | _, _, p, .box _ => by simp only [D.plain] at p; cases p
theorem dp_ofA {G H : Hp} (s : Sub G H) : ∀ {vs : List V} {ds : List D}, plainL ds = true → RpA S B G vs ds → DpAll S.K H vs (pyL ds)
  | _, _, _, .nil => .nil
  | _, _, p, .cons h r => by
    simp only [plainL, Bool.and_eq_true] at p
    exact .cons (dp_of s p.1 h) (dp_ofA s p.2 r)
end
mutual
/-- texts as Python's -/
def D.sok : D → Bool
  | .str x => PyData.strOk x
  | .lst l => sokL l
  | .tup l => sokL l
  | _ => true
def sokL : List D → Bool
  | [] => true
  | d :: l => d.sok && sokL l
end
mutual
theorem can_of : ∀ {d : D}, d.plain = true → d.sok = true → PyData.canLay0 d.py = true
  | .non, _, _ => by simp only [D.py, PyData.canLay0]
  | .bl _, _, _ => by simp only [D.py, PyData.canLay0]
  | .int _, _, _ => by simp only [D.py, PyData.canLay0]
  | .str x, _, s => by simp only [D.py, PyData.canLay0]; simpa only [D.sok] using s
  | .lst l, p, s => by simp only [D.py, PyData.canLay0]; exact can_ofA (by simpa only [D.plain] using p) (by simpa only [D.sok] using s)
  | .tup l, p, s => by simp only [D.py, PyData.canLay0]; exact can_ofA (by simpa only [D.plain] using p) (by simpa only [D.sok] using s)
  | .web _ _ _, p, _ => by simp only [D.plain] at p; cases p
  | .dk _, p, _ => by simp only [D.plain] at p; cases p
  | .dt _, p, _ => by simp only [D.plain] at p; cases p
  | .box, p, _ => by simp only [D.plain] at p; cases p
theorem can_ofA : ∀ {l : List D}, plainL l = true → sokL l = true → PyData.canLayAll0 (pyL l) = true
  | [], _, _ => by simp only [pyL, PyData.canLayAll0]
  | d :: l, p, s => by
    simp only [plainL, sokL, Bool.and_eq_true] at p s
    simp only [pyL, PyData.canLayAll0, can_of p.1 s.1, can_ofA p.2 s.2, Bool.and_self]
end
mutual
theorem deep_of : ∀ {d : D}, PyData.depth d.py ≤ d.deep
  | .non => by simp [D.py, PyData.depth]
  | .bl _ => by simp [D.py, PyData.depth]
  | .int _ => by simp [D.py, PyData.depth]
  | .str x => by simp [D.py, PyData.depth]
  | .lst l => by
    have := deep_ofA (l := l)
    simp only [D.py, PyData.depth, D.deep]; omega
  | .tup l => by
    have := deep_ofA (l := l)
    simp only [D.py, PyData.depth, D.deep]; omega
  | .web _ _ _ => by simp [D.py, PyData.depth]
  | .dk _ => by simp [D.py, PyData.depth]
  | .dt _ => by simp [D.py, PyData.depth]
  | .box => by simp [D.py, PyData.depth]
theorem deep_ofA : ∀ {l : List D}, PyData.depthAll (pyL l) ≤ deepL l
  | [] => by simp [pyL, PyData.depthAll]
  | d :: l => by
    have h1 := deep_of (d := d)
    have h2 := deep_ofA (l := l)
    simp only [pyL, PyData.depthAll, deepL]; omega
end
/-- what can be compared -/
def D.good (d : D) : Prop := d.plain = true ∧ d.sok = true ∧ d.deep ≤ 60
theorem D.good.shaped {d : D} (h : d.good) : SeqAt.shaped d.py = true := by
  unfold SeqAt.shaped
  have := deep_of (d := d)
  have := h.2.2
  rw [can_of h.1 h.2.1, decide_eq_true (by omega)]
  rfl
def eqD (d e : D) : Bool := PyData.eqv d.py e.py
theorem r_eqD : R2D S (rEqD S.K) (fun d e => M.bnd (M.req (d.good ∧ e.good)) fun _ => M.ret (.bl (eqD d e))) := fun B H G x y d e Q k rx ry h =>
  ⟨d.py, e.py, dp_of k.sub h.1.1.1 rx, dp_of k.sub h.1.2.1 ry, h.1.1.shaped, h.1.2.shaped, Rs1.now k h.2 (.bl _)⟩
theorem r_neD : R2D S (rNeD S.K) (fun d e => M.bnd (M.req (d.good ∧ e.good)) fun _ => M.ret (.bl (!eqD d e))) := fun B H G x y d e Q k rx ry h =>
  ⟨d.py, e.py, dp_of k.sub h.1.1.1 rx, dp_of k.sub h.1.2.1 ry, h.1.1.shaped, h.1.2.shaped, Rs1.now k h.2 (.bl _)⟩
def inD (d : D) (l : List D) : Bool := l.any fun z => eqD z d
theorem any_py (d : D) : ∀ l : List D, ((pyL l).any fun z => PyData.eqv z d.py) = inD d l
  | [] => rfl
  | z :: l => by
    unfold inD
    rw [pyL, List.any_cons, List.any_cons, any_py d l]
    rfl
def inL (neg : Bool) : D → D → M D
  | d, .lst l => M.bnd (M.req (d.good ∧ (D.lst l).good)) fun _ => M.ret (.bl (if neg then !inD d l else inD d l))
  | _, _ => M.fail
theorem r_inD : R2D S (rInD S.K) (inL false) := fun B H G x y d e Q k rx ry h => by
  cases e <;> first
    | exact h.elim
    | (rename_i l
       have h2 := dp_of k.sub h.1.2.1 ry
       have h3 := h.1.2.shaped
       simp only [D.py] at h2 h3
       refine ⟨d.py, pyL l, dp_of k.sub h.1.1.1 rx, h2, h.1.1.shaped, h3, ?_⟩
       rw [any_py]
       exact Rs1.now k h.2 (.bl _))
theorem r_notInD : R2D S (rNotInD S.K) (inL true) := fun B H G x y d e Q k rx ry h => by
  cases e <;> first
    | exact h.elim
    | (rename_i l
       have h2 := dp_of k.sub h.1.2.1 ry
       have h3 := h.1.2.shaped
       simp only [D.py] at h2 h3
       refine ⟨d.py, pyL l, dp_of k.sub h.1.1.1 rx, h2, h.1.1.shaped, h3, ?_⟩
       rw [any_py]
       exact Rs1.now k h.2 (.bl _))
def allM : List D → M D
  | [.lst l] => M.bnd (M.choose fun bs : List Bool => l = bs.map D.bl) fun bs => M.ret (.bl (bs.all id))
  | _ => M.fail
theorem bls_of {G : Hp} : ∀ {xs : List V} {bs : List Bool}, RpA S B G xs (bs.map D.bl) → xs = bs.map V.bl
  | _, [], h => by cases h; rfl
  | _, b :: bs, h => by
    cases h with
    | cons h1 h2 => cases h1; rw [bls_of h2]; rfl
theorem r_all : RCD S (rAll S.K) allM := fun B H G vs ds Q k r h => by
  unfold allM at h
  split at h
  · obtain ⟨bs, rfl, h⟩ := h
    cases r with
    | cons r1 r2 =>
      cases r2
      cases r1 with
      | lst ha hr =>
        rw [bls_of hr] at ha
        exact ⟨_, bs, rfl, SqL.of (k.sub _ _ ha), Rs1.now k h (.bl _)⟩
  · exact h.elim
/-! ### when they are equal -/
mutual
/-- no truth values (1 and True are equal) -/
def D.nb : D → Bool
  | .bl _ => false
  | .lst l => nbL l
  | .tup l => nbL l
  | _ => true
def nbL : List D → Bool
  | [] => true
  | d :: l => d.nb && nbL l
end
mutual
theorem eqD_eq : ∀ {d e : D}, d.plain = true → e.plain = true → d.nb = true → e.nb = true → (PyData.eqv d.py e.py = true ↔ d = e)
  | .non, e, _, p, _, q => by cases e <;> simp_all [D.py, PyData.eqv, D.plain, D.nb]
  | .bl _, e, _, _, n, _ => by simp only [D.nb] at n; cases n
  | .int i, e, _, p, _, q => by cases e <;> simp_all [D.py, PyData.eqv, D.plain, D.nb]
  | .str x, e, _, p, _, q => by cases e <;> simp_all [D.py, PyData.eqv, D.plain, D.nb]
  | .lst l, e, p1, p, n, q => by
    cases e with
    | lst m =>
      simp only [D.plain, D.nb] at p1 p n q
      simp only [D.py, PyData.eqv, D.lst.injEq]
      exact eqD_eqA p1 p n q
    | _ => simp_all [D.py, PyData.eqv, D.plain, D.nb]
  | .tup l, e, p1, p, n, q => by
    cases e with
    | tup m =>
      simp only [D.plain, D.nb] at p1 p n q
      simp only [D.py, PyData.eqv, D.tup.injEq]
      exact eqD_eqA p1 p n q
    | _ => simp_all [D.py, PyData.eqv, D.plain, D.nb]
  | .web _ _ _, _, p, _, _, _ => by simp only [D.plain] at p; cases p
  | .dk _, _, p, _, _, _ => by simp only [D.plain] at p; cases p
  | .dt _, _, p, _, _, _ => by simp only [D.plain] at p; cases p
  | .box, _, p, _, _, _ => by simp only [D.plain] at p; cases p
theorem eqD_eqA : ∀ {l m : List D}, plainL l = true → plainL m = true → nbL l = true → nbL m = true → (PyData.eqvAll (pyL l) (pyL m) = true ↔ l = m)
  | [], [], _, _, _, _ => by simp [pyL, PyData.eqvAll]
  | [], _ :: _, _, _, _, _ => by simp [pyL, PyData.eqvAll]
  | _ :: _, [], _, _, _, _ => by simp [pyL, PyData.eqvAll]
  | d :: l, e :: m, p, q, n, o => by
    simp only [plainL, nbL, Bool.and_eq_true] at p q n o
    simp only [pyL, PyData.eqvAll, Bool.and_eq_true, List.cons.injEq]
    rw [eqD_eq p.1 q.1 n.1 o.1, eqD_eqA p.2 q.2 n.2 o.2]
end
/-- plain data without truth values -/
def D.std (d : D) : Prop := d.good ∧ d.nb = true
theorem eqD_iff {d e : D} (h1 : d.std) (h2 : e.std) : eqD d e = true ↔ d = e := eqD_eq h1.1.1 h2.1.1 h1.2 h2.2
theorem inD_iff {d : D} {l : List D} (h1 : d.std) (h2 : ∀ z ∈ l, z.std) : inD d l = true ↔ d ∈ l := by
  unfold inD
  rw [List.any_eq_true]
  exact ⟨fun ⟨z, hz, e⟩ => by rw [← (eqD_iff (h2 z hz) h1).mp e]; exact hz, fun h => ⟨d, h, (eqD_iff h1 h1).mpr rfl⟩⟩
theorem std_int (i : Int) : (D.int i).std := ⟨⟨rfl, rfl, by simp [D.deep]⟩, rfl⟩
/-! lists of such -/
theorem plainL_of : ∀ {l : List D}, (∀ d ∈ l, d.plain = true) → plainL l = true
  | [], _ => rfl
  | d :: l, h => by simp only [plainL, h d (List.mem_cons_self ..), plainL_of fun x hx => h x (List.mem_cons_of_mem _ hx), Bool.and_self]
theorem sokL_of : ∀ {l : List D}, (∀ d ∈ l, d.sok = true) → sokL l = true
  | [], _ => rfl
  | d :: l, h => by simp only [sokL, h d (List.mem_cons_self ..), sokL_of fun x hx => h x (List.mem_cons_of_mem _ hx), Bool.and_self]
theorem nbL_of : ∀ {l : List D}, (∀ d ∈ l, d.nb = true) → nbL l = true
  | [], _ => rfl
  | d :: l, h => by simp only [nbL, h d (List.mem_cons_self ..), nbL_of fun x hx => h x (List.mem_cons_of_mem _ hx), Bool.and_self]
theorem thinL_of : ∀ {l : List D}, (∀ d ∈ l, d.thin = true) → thinL l = true
  | [], _ => rfl
  | d :: l, h => by simp only [thinL, h d (List.mem_cons_self ..), thinL_of fun x hx => h x (List.mem_cons_of_mem _ hx), Bool.and_self]
theorem deepL_of {n : Nat} : ∀ {l : List D}, (∀ d ∈ l, d.deep ≤ n) → deepL l ≤ n
  | [], _ => by simp [deepL]
  | d :: l, h => by
    have h1 := h d (List.mem_cons_self ..)
    have h2 := deepL_of fun x hx => h x (List.mem_cons_of_mem _ hx)
    simp only [deepL]; omega
theorem std_lst {l : List D} {n : Nat} (hn : n < 60) (h : ∀ d ∈ l, d.std ∧ d.deep ≤ n) : (D.lst l).std := by
  refine ⟨⟨?_, ?_, ?_⟩, ?_⟩
  · simp only [D.plain]; exact plainL_of fun d hd => (h d hd).1.1.1
  · simp only [D.sok]; exact sokL_of fun d hd => (h d hd).1.1.2.1
  · have := deepL_of fun d hd => (h d hd).2
    simp only [D.deep]; omega
  · simp only [D.nb]; exact nbL_of fun d hd => (h d hd).1.2
theorem std_tup {l : List D} {n : Nat} (hn : n < 60) (h : ∀ d ∈ l, d.std ∧ d.deep ≤ n) : (D.tup l).std := by
  refine ⟨⟨?_, ?_, ?_⟩, ?_⟩
  · simp only [D.plain]; exact plainL_of fun d hd => (h d hd).1.1.1
  · simp only [D.sok]; exact sokL_of fun d hd => (h d hd).1.1.2.1
  · have := deepL_of fun d hd => (h d hd).2
    simp only [D.deep]; omega
  · simp only [D.nb]; exact nbL_of fun d hd => (h d hd).1.2
def iDD (l : List Int) : D := .lst (l.map D.int)
theorem std_ints (l : List Int) : (iDD l).std := std_lst (n := 0) (by decide) fun d hd => by
  obtain ⟨i, _, rfl⟩ := List.mem_map.mp hd
  exact ⟨std_int i, by simp [D.deep]⟩
theorem deep_ints (l : List Int) : (iDD l).deep ≤ 1 := by
  have := deepL_of (n := 0) (l := l.map D.int) fun d hd => by
    obtain ⟨i, _, rfl⟩ := List.mem_map.mp hd
    simp [D.deep]
  simp only [iDD, D.deep]; omega
theorem int_inj : ∀ {l m : List Int}, l.map D.int = m.map D.int → l = m
  | [], [], _ => rfl
  | [], _ :: _, h => by cases h
  | _ :: _, [], h => by cases h
  | a :: l, b :: m, h => by
    simp only [List.map_cons, List.cons.injEq, D.int.injEq] at h
    rw [h.1, int_inj h.2]
theorem eqD_ints (l m : List Int) : eqD (iDD l) (iDD m) = decide (l = m) := by
  rw [Bool.eq_iff_iff, eqD_iff (std_ints l) (std_ints m), decide_eq_true_eq]
  exact ⟨fun h => int_inj (D.lst.inj h), fun h => by rw [h]⟩
theorem thin_ints {l : List Int} (h : l.length ≤ 100000) : (iDD l).thin = true := by
  simp only [iDD, D.thin, Bool.and_eq_true, decide_eq_true_eq, List.length_map]
  refine ⟨h, thinL_of fun d hd => ?_⟩
  obtain ⟨i, _, rfl⟩ := List.mem_map.mp hd
  simp only [D.thin]
end Dv
namespace Dv
open PySem PySem.Spec PyProof.Rows L2 Sg
variable {S : Base} {B : Bo S} {X : XK}
def tyD : D → Option String
  | .non => some "NoneType"
  | .bl _ => some "bool"
  | .int _ => some "int"
  | .str _ => some "str"
  | .lst _ => some "list"
  | _ => none
def isiB (T : String) (d : D) : Option Bool := (tyD d).bind fun t => kitB t T
theorem ed_isi {ta : TE} {ma : Env → M D} {T : String} (ha : EvD S ta ma) : EvD S (tCB (rIsi S.K) (tCons ta (tCons (tC (.ty T)) tNil))) (fun ρ => M.bnd (ma ρ) fun d => M.bnd (M.opt (isiB T d)) fun b => M.ret (.bl b)) := fun B σ H G ρ Q k er q =>
  ha B σ H G ρ _ k er ((ma ρ).mono (fun d hd v H1 G1 k1 c1 r1 => by
    obtain ⟨b, h1, h2⟩ := M.run_opt hd
    have h2 : Q (.bl b) H1 := (show Rs1 S B H G Q (.bl b) from h2) _ H1 G1 k1 c1 (.bl b)
    cases r1 <;> first
      | exact ⟨_, _, _, _, b, rfl, .ty T, .base .non, kit_ty h1, h2⟩
      | exact ⟨_, _, _, _, b, rfl, .ty T, .base (.bl _), kit_ty h1, h2⟩
      | exact ⟨_, _, _, _, b, rfl, .ty T, .base (.int _), kit_ty h1, h2⟩
      | exact ⟨_, _, _, _, b, rfl, .ty T, .base (.str _), kit_ty h1, h2⟩
      | (rename_i hg hr; exact ⟨_, _, _, _, b, rfl, .ty T, .base (.lst (k1.sub _ _ hg)), kit_ty h1, h2⟩)
      | cases h1) q)
/-! ### rules that name the written part (for comprehensions) -/
section
variable {Y : Cx} {K : PySem.W.Frag}
theorem dx_list (h : Y.K = K) : IxR Y (rIxL K) := by subst h; exact ix_list
theorem dx_tup (h : Y.K = K) : IxR Y (rIxT K) := by subst h; exact ix_tup
theorem dx_seq (h : Y.K = K) : IxR Y (rIx K) := by subst h; exact ix_seq
theorem dv_len (h : Y.K = K) : CallR Y (.builtin "len") (fun xs H Q => ∃ p ys, xs = [.ref p] ∧ (SqL K H p ys ∨ SqT K H p ys) ∧ Q (.int ys.length) H) := by subst h; exact call_len_seq
theorem dv_list (h : Y.K = K) : CallR Y (.type "list") (fun xs H Q => ∃ p ys, xs = [.ref p] ∧ (SqL K H p ys ∨ SqT K H p ys) ∧ ∀ l, H l = none → Q (.ref l) (upd H l (.lst ys))) := by subst h; exact call_list_of
theorem dv_tuple (h : Y.K = K) : CallR Y (.type "tuple") (fun xs H Q => ∃ p ys, xs = [.ref p] ∧ ((SqL K H p ys ∧ ∀ l, H l = none → Q (.ref l) (upd H l (.tup ys))) ∨ (SqT K H p ys ∧ Q (.ref p) H))) := by subst h; exact call_tuple_of
theorem dv_all (h : Y.K = K) (hc : Y.calm = true) : CallR Y (.builtin "all") (rAll K) := by subst h; exact cr_all hc
theorem dv_any (h : Y.K = K) (hc : Y.calm = true) : CallR Y (.builtin "any") (rAny K) := by subst h; exact cr_any hc
theorem dv_sum (h : Y.K = K) (hc : Y.calm = true) : CallR Y (.builtin "sum") (rSum K) := by subst h; exact cr_sum hc
theorem dv_eq (h : Y.K = K) (hu : Y.A.units + 64 < cLine) : OpR Y (compareOp .Eq) (rEqD K) := by subst h; exact op_eqD hu
theorem dv_ne (h : Y.K = K) (hu : Y.A.units + 64 < cLine) : OpR Y (compareOp .NotEq) (rNeD K) := by subst h; exact op_neD hu
theorem dv_in (h : Y.K = K) (hu : Y.A.units + 65 < cLine) : OpR Y (compareOp .In) (rInD K) := by subst h; exact op_inD hu
theorem dv_notIn (h : Y.K = K) (hu : Y.A.units + 65 < cLine) : OpR Y (compareOp .NotIn) (rNotInD K) := by subst h; exact op_notInD hu
theorem dv_slL (h : Y.K = K) : SlR Y (rSlL K) := by subst h; exact sl_list
theorem dv_slT (h : Y.K = K) : SlR Y (rSlT K) := by subst h; exact sl_tup
theorem dv_isi (h : Y.K = K) : CallR Y (.builtin "isinstance") (rIsi K) := by subst h; exact call_isi
theorem di_list {tg l : Expr} {tl : TE} (h : Y.K = K) (hl : PE Y l tl) : PI Y tg l (iList K tl) := by subst h; exact pi_list hl
theorem di_tup {tg l : Expr} {tl : TE} (h : Y.K = K) (hl : PE Y l tl) : PI Y tg l (iTup K tl) := by subst h; exact pi_tup hl
theorem da_star {e : Expr} {p : Pos} {es : List Expr} {te : TE} {t : TA} (h : Y.K = K) (he : PE Y e te) (hr : PA Y es t) (hs : starEach (.Starred e p :: es) Y.env = (true, eval e Y.env) :: starEach es Y.env := by rfl) : PA Y (.Starred e p :: es) (StX.tStar K te t) := by
  subst h
  exact StX.pa_star he hr hs
end
/-! ### loops, by what holds ahead of each turn -/
def stepP (I : Ev → Prop) (P : Ou → Prop) : Ou → Prop
  | .nx ρ => I ρ
  | .ct ρ => I ρ
  | .bk ρ => P (.nx ρ)
  | .rt d => P (.rt d)
  | .rl l => P (.rl l)
  | .er x => P (.er x)
theorem loop_inv {b : D → Ev → M Ev} {g : Ev → M Ou} {P : Ou → Prop} (I : Nat → Ev → Prop) : ∀ (ds : List D) (k : Nat) (ρ : Ev), I k ρ →
    (∀ i (h : i < ds.length) ρ, I (k + i) ρ → (b ds[i] ρ).run fun ρ1 => (g ρ1).run (stepP (I (k + i + 1)) P)) → (∀ ρ, I (k + ds.length) ρ → P (.nx ρ)) → (loopM b g ds ρ).run P
  | [], k, ρ, h0, hs, hd => hd ρ h0
  | d :: ds, k, ρ, h0, hs, hd => by
    have h1 := hs 0 (by simp) ρ h0
    refine (b d ρ).mono (fun ρ1 hρ => (g ρ1).mono (fun o ho => ?_) hρ) h1
    have go : ∀ ρ2, I (k + 1) ρ2 → (loopM b g ds ρ2).run P := fun ρ2 h2 => loop_inv I ds (k + 1) ρ2 h2 (fun i h ρ hi => by
      have := hs (i + 1) (by simp only [List.length_cons]; omega) ρ (by rw [show k + (i + 1) = k + 1 + i by omega]; exact hi)
      rw [show k + (i + 1) + 1 = k + 1 + i + 1 by omega] at this
      simpa only [List.getElem_cons_succ] using this) (fun ρ hi => hd ρ (by simp only [List.length_cons]; rw [show k + (ds.length + 1) = k + 1 + ds.length by omega]; exact hi))
    cases o with
    | nx ρ2 => exact go ρ2 ho
    | ct ρ2 => exact go ρ2 ho
    | bk ρ2 => exact ho
    | rt d => exact ho
    | rl l => exact ho
    | er x => exact ho
/-- the same from the start -/
theorem loop_run {b : D → Ev → M Ev} {g : Ev → M Ou} {P : Ou → Prop} {ds : List D} {ρ : Ev} (I : Nat → Ev → Prop) (h0 : I 0 ρ) (hs : ∀ i (h : i < ds.length) ρ, I i ρ → (b ds[i] ρ).run fun ρ1 => (g ρ1).run (stepP (I (i + 1)) P)) (hd : ∀ ρ, I ds.length ρ → P (.nx ρ)) : (loopM b g ds ρ).run P :=
  loop_inv I ds 0 ρ h0 (fun i h ρ hi => by
    have := hs i h ρ (by simpa using hi)
    simpa using this) (fun ρ hi => hd ρ (by simpa using hi))
theorem step_nx (I : Ev → Prop) (P : Ou → Prop) (ρ : Ev) : stepP I P (.nx ρ) = I ρ := rfl
theorem step_ct (I : Ev → Prop) (P : Ou → Prop) (ρ : Ev) : stepP I P (.ct ρ) = I ρ := rfl
theorem step_bk (I : Ev → Prop) (P : Ou → Prop) (ρ : Ev) : stepP I P (.bk ρ) = P (.nx ρ) := rfl
theorem step_rt (I : Ev → Prop) (P : Ou → Prop) (d : D) : stepP I P (.rt d) = P (.rt d) := rfl
theorem step_rl (I : Ev → Prop) (P : Ou → Prop) (l : List D) : stepP I P (.rl l) = P (.rl l) := rfl
theorem step_er (I : Ev → Prop) (P : Ou → Prop) (x : Exn) : stepP I P (.er x) = P (.er x) := rfl
theorem lcF_go (b : D → Env → M Env) (mt : Env → M Bool) (me : Env → M D) (ρ : Env) (d : D) : lcF b mt me ρ d = M.bnd (b d ρ) fun ρ' => M.bnd (mt ρ') fun t => if t = true then M.bnd (me ρ') fun y => M.ret (some y) else M.ret none := rfl
theorem atI_get {α : Type} {l : List α} {i : Int} (h0 : 0 ≤ i) (h : i.toNat < l.length) : L2.atI l i = some l[i.toNat] := by
  unfold L2.atI ixN
  rw [if_pos h0, if_pos (by omega)]
  exact List.getElem?_eq_getElem h
theorem vOf_int (i : Int) : vOf (.int i) = some (.int i) := rfl
theorem vOf_str (i : Str) : vOf (.str i) = some (.str i) := rfl
theorem find_first {α : Type} {p : α → Bool} {l : List α} {i : Nat} (h : i < l.length) (hn : ∀ j ∈ l.take i, p j = false) (hp : p l[i] = true) : l.find? p = some l[i] := by
  have e : l = l.take i ++ l[i] :: l.drop (i + 1) := by rw [← List.drop_eq_getElem_cons h, List.take_append_drop]
  have h1 : (l.take i).find? p = none := List.find?_eq_none.mpr fun x hx => by rw [hn x hx]; decide
  conv => lhs; rw [e]
  rw [List.find?_append, h1, List.find?_cons, hp]
  rfl
theorem take_next {α : Type} {l : List α} {i : Nat} (h : i < l.length) {P : α → Prop} (hg : ∀ j ∈ l.take i, P j) (hi : P l[i]) : ∀ j ∈ l.take (i + 1), P j := fun j hj => by
  rw [List.take_add_one, List.getElem?_eq_getElem h] at hj
  rcases List.mem_append.mp hj with hj | hj
  · exact hg j hj
  · rw [List.mem_singleton.mp hj]; exact hi
end Dv
namespace Dv
open PySem PySem.Spec PyProof.Rows L2 Sg
variable {S : Base} {B : Bo S} {X : XK}
section
variable {Y : Cx} {K : PySem.W.Frag}
theorem dg_tup {pos : Pos} {es : List Expr} {k : Nat} {t : TGs} {n : Nat} (h : Y.K = K) (hc : Y.calm = true) (ht : PGs Y es t) (hn : (assignEach es Y.env).length = n := by rfl) (hs : List.findIdx? (fun x => x.fst) (assignEach es Y.env) = none := by rfl) : PG Y (Expr.Tuple es k pos) (gTup K n t) := by
  subst h
  exact pg_tup hc ht hn hs
end
def isB : D → D → M D
  | .bl a, .bl b => M.ret (.bl (decide (a = b)))
  | _, _ => M.fail
def notB : D → D → M D
  | .bl a, .bl b => M.ret (.bl (!decide (a = b)))
  | _, _ => M.fail
theorem r_isB : R2D S (fun x y H Q => ∃ a b, x = .bl a ∧ y = .bl b ∧ Q (.bl (decide (a = b))) H) isB := fun B H G x y d e Q k rx ry h => by
  cases d <;> cases e <;> first
    | exact h.elim
    | (cases rx; cases ry; exact ⟨_, _, rfl, rfl, Rs1.now k h (.bl _)⟩)
theorem r_notB : R2D S (fun x y H Q => ∃ a b, x = .bl a ∧ y = .bl b ∧ Q (.bl (!decide (a = b))) H) notB := fun B H G x y d e Q k rx ry h => by
  cases d <;> cases e <;> first
    | exact h.elim
    | (cases rx; cases ry; exact ⟨_, _, rfl, rfl, Rs1.now k h (.bl _)⟩)
theorem isB_go (a b : Bool) : isB (.bl a) (.bl b) = M.ret (.bl (decide (a = b))) := rfl
theorem notB_go (a b : Bool) : notB (.bl a) (.bl b) = M.ret (.bl (!decide (a = b))) := rfl
/-- a call of what may be refused, where it is not -/
def okR : Rx → M D
  | .ok d => M.ret d
  | .er _ => M.fail
theorem okR_go (d : D) : okR (.ok d) = M.ret d := rfl
theorem ed_callX {f : List D → M Rx} {E : XK} {t : TA} {m : Env → M (List D)} (h : EvA S t m) : EvD S (tCall (spX S f) [] E t) (fun ρ => M.bnd (m ρ) fun l => M.bnd (f l) okR) := fun B σ H G ρ Q k er q =>
  h B σ H G ρ _ k er ((m ρ).mono (fun l hl vs H1 G1 k1 c1 r1 => ⟨B, G1, l, k1, by rw [List.append_nil]; exact r1, (f l).mono (fun z hz => by
    cases z with
    | ok d => exact Rs1.after c1 hz
    | er x => exact hz.elim) hl⟩) q)
section
variable {Y : Cx} {CX : CXT} {k : Nat} {f : Addr} {fd : FuncData} {ps ks : List Str} {sp : Sp} {E : XK} {x : Str} {p pos : Pos} {kws : List Keyword} {tk : TA} {g : List Value → List Value → List Value} {gV : List V → List V → List V}
/-- f(k = v, ..) -/
theorem pe_callN0 (F : FnOk Y.prog Y.w Y.K Y.mg Y.base CX k f fd ps sp) (hr : Room k Y.A) (hg : Gl Y x) (hm : Y.mg x = some (.ref f)) (hk : PySem.W.keepIn Y.K (.ref f) = true) (hb : KBn Y.K fd ps 0 ks g gV) (hx : Passes CX Y E)
    (hkw : PK Y kws tk) (hall : (backToKw pos (keywordEach kws Y.env)).all (·.1.isSome) = true := by rfl) (hks : (backToKw pos (keywordEach kws Y.env)).filterMap (·.1) = ks := by rfl)
    (hdb : (x == ("__debug__" : Str)) = false := by decide)
    (hpl : ((backTo pos (starEach [] Y.env)).any (·.1) || (backToKw pos (keywordEach kws Y.env)).any (·.1.isNone)) = false := by rfl) :
    PE Y (.Call (.Name x p) [] kws pos) (tCallN 0 ks.length sp gV E tNil tk) := by
  refine ⟨fun pins s σ H Q I h => ?_⟩
  refine wpAny_Call_Name_kw (ld_glob I hg hm ?_ hdb)
  refine PySem.W.callWith_KW0 (h₀ := Y.base) I.ok.mod.kin hk hall (thn (hkw.run pos pins s σ H _ I h) fun ws s2 ⟨zs, H2, I2, rz, l1, l2, q2⟩ => ⟨I2.kIn, ?_⟩) hpl
  rw [hks]
  exact run_fnN (us := []) F hr hb hx I2 .nil rz l1 l2 q2
end
/-! ### a law: behind the box -/
theorem law_go {t : TS} {g : Ev → M Ou} {n : Nat} {H : Hp} {a bx q : Addr} (h : SvD S X t g) (hb : BxAt H bx q) (tb : LamX.Tabs S.T H) (ref : (g (none :: some (.f .box) :: List.replicate n none)).run fun o => o = .rt (.bl true)) {D : Ends} (hD : ∀ H', D.rt (.bl true) H') : t D (some (.ref a) :: some (.ref bx) :: List.replicate n none) H := by
  let G : Hp := fun _ => none
  have k : Ok (S := S) ⟨some (bx, q)⟩ H G := ⟨(fun a o e => nomatch e), fun _ _ _ => rfl, fun b q' e => by cases e; exact hb, tb, (fun a ps e => nomatch e)⟩
  have get : ∀ {i : Nat} {s : Sl}, (none :: some (.f .box) :: List.replicate n none : Ev)[i]? = some (some s) → i = 1 ∧ s = .f .box := fun {i s} e => by
    match i with
    | 0 => cases e
    | 1 => cases e; exact ⟨rfl, rfl⟩
    | i + 2 =>
      simp only [List.getElem?_cons_succ, List.getElem?_replicate] at e
      split at e <;> cases e
  refine h ⟨some (bx, q)⟩ H G _ H _ _ ⟨G, fun _ => 0, fun b q' e => ?_, k, Ch.refl, ?_, fun i d e => ?_, fun i s e w => ?_, fun i j s t e1 e2 w1 w2 => ?_⟩ (M.mono _ (fun o ho => ?_) ref)
  · obtain ⟨ns, i, r, kk, e1, e2, e3⟩ := k.bx b q' e
    exact ⟨_, _, e1, e2⟩
  · simp only [List.length_cons, List.length_replicate]
  · obtain ⟨rfl, e2⟩ := get e
    cases e2
    exact ⟨_, rfl, .box rfl⟩
  · obtain ⟨rfl, rfl⟩ := get e
    cases w
  · obtain ⟨rfl, rfl⟩ := get e1
    cases w1
  · subst ho
    exact fun v H' G' k' c r => by
      cases r
      exact hD H'
theorem mem_cut {l : List D} {lo hi : Option Int} {d : D} (h : d ∈ cutD l lo hi) : d ∈ l := List.mem_of_mem_drop (List.mem_of_mem_take h)
end Dv
namespace Dv
open PySem PySem.Spec PyProof.Rows L2 RZ Sg Tm Wb
local macro_rules | `(tactic| walk_at "r2") => `(tactic| first | with_reducible exact r_I0 | with_reducible exact r_I | with_reducible exact r_eq | with_reducible exact r_ne | with_reducible exact r_isN | with_reducible exact r_notN | with_reducible exact r_ixL | with_reducible exact r_ixT | with_reducible exact r_ixQ | with_reducible exact r_eqD | with_reducible exact r_neD | with_reducible exact r_inD | with_reducible exact r_notInD | with_reducible exact r_isB | with_reducible exact r_notB)
local macro_rules | `(tactic| walk_at "r2l") => `(tactic| first | with_reducible exact r_cat)
local macro_rules | `(tactic| walk_at "rc") => `(tactic| first | with_reducible exact r_len | with_reducible exact r_all)
local macro_rules | `(tactic| walk_at "rcl") => `(tactic| first | with_reducible exact r_list)
local macro_rules | `(tactic| walk_at "eo") => `(tactic| first | with_reducible exact eo_none | (with_reducible apply eo_some; walk_at "ed"))
local macro_rules | `(tactic| walk_at "ea") => `(tactic| first | with_reducible exact ea_nil | (with_reducible apply ea_star; walk_at "ed"; walk_at "ea") | (with_reducible apply ea_cons; walk_at "ed"; walk_at "ea"))
local macro_rules | `(tactic| walk_at "et") => `(tactic| first
  | with_reducible exact et_yes
  | (with_reducible apply et_test; walk_at "ed") | (with_reducible apply et_B; walk_at "ed") | (with_reducible apply et_not; walk_at "et")
  | (with_reducible apply et_and; walk_at "et"; walk_at "et") | (with_reducible apply et_or; walk_at "et"; walk_at "et"))
local macro_rules | `(tactic| walk_at "eg") => `(tactic| first | with_reducible exact eg_name | (with_reducible apply eg_tup; walk_at "egs"))
local macro_rules | `(tactic| walk_at "egs") => `(tactic| first | with_reducible exact eg_nil | (with_reducible apply eg_cons; walk_at "eg"; walk_at "egs"))
local macro_rules | `(tactic| walk_at "es") => `(tactic| first | with_reducible exact es_name | (with_reducible apply es_tup; walk_at "ess"))
local macro_rules | `(tactic| walk_at "ess") => `(tactic| first | with_reducible exact es_nil | (with_reducible apply es_cons; walk_at "es"; walk_at "ess"))
local macro_rules | `(tactic| walk_at "ei") => `(tactic| first | (with_reducible apply ei_list; walk_at "ed") | (with_reducible apply ei_tup; walk_at "ed") | (with_reducible apply ei_rng1; walk_at "ea") | (with_reducible apply ei_rng2; walk_at "ea") | (with_reducible apply ei_str; walk_at "ed"))
local macro_rules | `(tactic| walk_at "el") => `(tactic| first
  | (with_reducible apply el_lst; walk_at "ea")
  | (focus (with_reducible apply el_lc; rotate_left; walk_at "ei"; walk_at "eg"; walk_at "et"; walk_at "ed"; decide))
  | (with_reducible apply el_op; walk_at "r2l"; walk_at "ed"; walk_at "ed")
  | (with_reducible apply el_cb; walk_at "rcl"; walk_at "ea")
  | (with_reducible apply el_sl; walk_at "ed"; walk_at "eo"; walk_at "eo")
  | (with_reducible apply el_call; walk_at "ea")
  | walk_at "el+"
  | (with_reducible apply el_meth; decide; walk_at "ed"; walk_at "ea"))
local macro_rules | `(tactic| walk_at "ed") => `(tactic| first
  | with_reducible exact ed_var | with_reducible exact ed_c
  | (with_reducible apply ed_op; walk_at "r2"; walk_at "ed"; walk_at "ed")
  | (with_reducible apply ed_call; walk_at "ea")
  | (with_reducible apply ed_callX; walk_at "ea")
  | (with_reducible apply ed_tup; walk_at "ea")
  | (with_reducible apply ed_if; walk_at "et"; walk_at "ed"; walk_at "ed")
  | (with_reducible apply ed_cb; walk_at "rc"; walk_at "ea")
  | (with_reducible apply ed_un r_U; walk_at "ed")
  | (with_reducible apply ed_chain; walk_at "r2"; walk_at "r2"; walk_at "ed"; walk_at "ed"; walk_at "ed")
  | (with_reducible apply ed_andV; walk_at "ed"; walk_at "ed") | (with_reducible apply ed_orV; walk_at "ed"; walk_at "ed")
  | (with_reducible apply ed_meth; decide; walk_at "ed"; walk_at "ea")
  | walk_at "ed+"
  | (with_reducible apply EvL.d; walk_at "el"))
local macro_rules | `(tactic| walk_at "svF") => `(tactic| first
  | (with_reducible apply sv_seq; walk_at "svF"; walk_at "svF")
  | (with_reducible apply sv_asg; walk_at "ed")
  | (with_reducible apply sv_if; walk_at "et"; walk_at "svF"; walk_at "svF")
  | (with_reducible apply sv_for; walk_at "ei"; walk_at "es"; walk_at "svF")
  | walk_at "sv")
local macro_rules | `(tactic| walk_at "sv") => `(tactic| first
  | with_reducible exact sv_next | with_reducible exact sv_break | with_reducible exact sv_cont | with_reducible exact sv_never | with_reducible exact sv_retN
  | (with_reducible apply sv_seq; walk_at "sv"; walk_at "sv")
  | (with_reducible apply sv_asgL; walk_at "el")
  | (with_reducible apply sv_asg; walk_at "ed")
  | (with_reducible apply sv_if; walk_at "et"; walk_at "sv"; walk_at "sv")
  | (with_reducible apply sv_for; walk_at "ei"; walk_at "es"; walk_at "sv")
  | (with_reducible apply sv_par; walk_at "ea")
  | (with_reducible apply sv_app; walk_at "ed")
  | (with_reducible apply sv_ret; walk_at "ed")
  | (with_reducible apply sv_asgT; walk_at "ed"; walk_at "es")
  | (with_reducible apply sv_drop; walk_at "ed"))
structure Bq (mg : Str → Option Value) : Prop where
  range : mg "range" = none
  len : mg "len" = none
  list : mg "list" = none
section
variable {P : Program} {w : World} {K : PySem.W.Frag} {mg : Str → Option Value} {base : Heap} {C : Addr} {T : List (Addr × Str)} {cls : Str → Addr}
theorem takeM_go (n : Int) : takeM [.box, .int n] = M.bnd (M.req (0 < n ∧ n < 2 ^ 100)) fun _ => M.bnd (M.all fun v : Int => 0 ≤ v ∧ v < n) fun v => M.ret (.int v) := rfl
theorem oneM_go (ds : List D) : oneM [.box, .lst ds] = M.bnd (M.req (ds ≠ [] ∧ ds.length ≤ 1000)) fun _ => M.all fun d => d ∈ ds := rfl
def hueM : List D → M D
  | [.box] => M.bnd (M.all fun c : Nat => c = 97 ∨ c = 98 ∨ c = 99) fun c => M.ret (.str ⟨#[c]⟩)
  | _ => M.fail
theorem len_hue {ds : List D} {Q : _ → Prop} (h : (hueM ds).run Q) : ds.length = 1 := by
  unfold hueM at h
  split at h
  · rfl
  · exact h.elim
abbrev N_hue : List Str := ["_law_box_here"]
theorem sc_hue : FnScope N_hue ["_law_box_here"] (defScope sHue) := ⟨rfl, rfl, rfl, by decide +kernel, rfl, by decide +kernel, by decide +kernel⟩
theorem ok_hue {f fO : Addr} {fd dO : FuncData} (F : Fun K "_law_hue" "_law_hue" sHue f fd) (oO : Df P w K mg base 2 "_law_one" ["_law_box_here", "_law_some"] (spD (mkS K C T cls) oneM) fO dO) : FnOk P w K mg base CX0 3 f fd ["_law_box_here"] (spD (mkS K C T cls) hueM) := by
  refine F.ok sc_hue (fun vs H Q E h => ?_) (fun cdv A outer s H vs Q E hr h => ?_)
  · obtain ⟨B, G, ds, _, r, h⟩ := h
    rw [r.length]
    exact len_hue h
  · have hu5 : (A.deeper (envOfC "_law_hue" (defScope sHue) s.heap.objs.size f cdv)).units + 65 < cLine := by
      have := hr.un
      omega
    have hu : (A.deeper (envOfC "_law_hue" (defScope sHue) s.heap.objs.size f cdv)).units + 64 < cLine := by omega
    have hu1 : (A.deeper (envOfC "_law_hue" (defScope sHue) s.heap.objs.size f cdv)).units + 1 < cLine := by omega
    refine ⟨_, (pss_one (ps_ret (pe_call oO.ok (hr.mono (by decide)) (by rfl) oO.gl oO.kp oO.bd .nil pass0 (pa_cons (pv 0) (pa_cons (pe_lst (pa_cons pe_str (pa_cons pe_str (pa_cons pe_str (pa_cons pe_str (pa_cons pe_str (pa_cons pe_str pa_nil))))))) pa_nil))))), ?_⟩
    refine run_D (X := E) (S := mkS K C T cls) (N := N_hue) (by walk_at "sv") ?_ h
    intro ds Q hq
    unfold hueM at hq
    split at hq
    · refine ⟨by decide, ⟨(fun z => nomatch z), by decide⟩, fun d hd => ?_⟩
      simp only [List.mem_cons, List.not_mem_nil, or_false] at hd
      rcases hd with rfl | rfl | rfl | rfl | rfl | rfl
      · exact hq 97 (by decide)
      · exact hq 97 (by decide)
      · exact hq 97 (by decide)
      · exact hq 98 (by decide)
      · exact hq 98 (by decide)
      · exact hq 99 (by decide)
    · exact hq.elim
def signM : List D → M D
  | [.box] => M.bnd (M.all fun c : Nat => c = 112 ∨ c = 113 ∨ c = 114) fun c => M.ret (.str ⟨#[c]⟩)
  | _ => M.fail
theorem len_sign {ds : List D} {Q : _ → Prop} (h : (signM ds).run Q) : ds.length = 1 := by
  unfold signM at h
  split at h
  · rfl
  · exact h.elim
abbrev N_sign : List Str := ["_law_box_here"]
theorem sc_sign : FnScope N_sign ["_law_box_here"] (defScope sSign) := ⟨rfl, rfl, rfl, by decide +kernel, rfl, by decide +kernel, by decide +kernel⟩
theorem ok_sign {f fO : Addr} {fd dO : FuncData} (F : Fun K "_law_sign" "_law_sign" sSign f fd) (oO : Df P w K mg base 2 "_law_one" ["_law_box_here", "_law_some"] (spD (mkS K C T cls) oneM) fO dO) : FnOk P w K mg base CX0 3 f fd ["_law_box_here"] (spD (mkS K C T cls) signM) := by
  refine F.ok sc_sign (fun vs H Q E h => ?_) (fun cdv A outer s H vs Q E hr h => ?_)
  · obtain ⟨B, G, ds, _, r, h⟩ := h
    rw [r.length]
    exact len_sign h
  · have hu5 : (A.deeper (envOfC "_law_sign" (defScope sSign) s.heap.objs.size f cdv)).units + 65 < cLine := by
      have := hr.un
      omega
    have hu : (A.deeper (envOfC "_law_sign" (defScope sSign) s.heap.objs.size f cdv)).units + 64 < cLine := by omega
    have hu1 : (A.deeper (envOfC "_law_sign" (defScope sSign) s.heap.objs.size f cdv)).units + 1 < cLine := by omega
    refine ⟨_, (pss_one (ps_ret (pe_call oO.ok (hr.mono (by decide)) (by rfl) oO.gl oO.kp oO.bd .nil pass0 (pa_cons (pv 0) (pa_cons (pe_lst (pa_cons pe_str (pa_cons pe_str (pa_cons pe_str (pa_cons pe_str pa_nil))))) pa_nil))))), ?_⟩
    refine run_D (X := E) (S := mkS K C T cls) (N := N_sign) (by walk_at "sv") ?_ h
    intro ds Q hq
    unfold signM at hq
    split at hq
    · refine ⟨by decide, ⟨(fun z => nomatch z), by decide⟩, fun d hd => ?_⟩
      simp only [List.mem_cons, List.not_mem_nil, or_false] at hd
      rcases hd with rfl | rfl | rfl | rfl
      · exact hq 112 (by decide)
      · exact hq 112 (by decide)
      · exact hq 113 (by decide)
      · exact hq 114 (by decide)
    · exact hq.elim
def arrowM : List D → M D
  | [.box, .int n] => M.bnd (M.req (0 < n ∧ n < 2 ^ 100)) fun _ => M.bnd (M.all fun k : Ks => AK n k) fun k => M.ret (tieD k)
  | _ => M.fail
theorem len_arrow {ds : List D} {Q : _ → Prop} (h : (arrowM ds).run Q) : ds.length = 2 := by
  unfold arrowM at h
  split at h
  · rfl
  · exact h.elim
abbrev N_arrow : List Str := ["_law_box_here", "_law_many"]
theorem sc_arrow : FnScope N_arrow ["_law_box_here", "_law_many"] (defScope sArrow) := ⟨rfl, rfl, rfl, by decide +kernel, rfl, by decide +kernel, by decide +kernel⟩
theorem ok_arrow {f fT fU : Addr} {fd dT dU : FuncData} (F : Fun K "_law_arrow" "_law_arrow" sArrow f fd) (oU : Df P w K mg base 3 "_law_hue" ["_law_box_here"] (spD (mkS K C T cls) hueM) fU dU) (oT : Df P w K mg base 1 "_law_take" ["_law_box_here", "_law_many"] (spD (mkS K C T cls) takeM) fT dT) : FnOk P w K mg base CX0 4 f fd ["_law_box_here", "_law_many"] (spD (mkS K C T cls) arrowM) := by
  refine F.ok sc_arrow (fun vs H Q E h => ?_) (fun cdv A outer s H vs Q E hr h => ?_)
  · obtain ⟨B, G, ds, _, r, h⟩ := h
    rw [r.length]
    exact len_arrow h
  · have hu5 : (A.deeper (envOfC "_law_arrow" (defScope sArrow) s.heap.objs.size f cdv)).units + 65 < cLine := by
      have := hr.un
      omega
    have hu : (A.deeper (envOfC "_law_arrow" (defScope sArrow) s.heap.objs.size f cdv)).units + 64 < cLine := by omega
    have hu1 : (A.deeper (envOfC "_law_arrow" (defScope sArrow) s.heap.objs.size f cdv)).units + 1 < cLine := by omega
    refine ⟨_, (pss_one (ps_ret (pe_tup (pa_cons (pe_call oU.ok (hr.mono (by decide)) (by rfl) oU.gl oU.kp oU.bd .nil pass0 (pa_cons (pv 0) pa_nil)) (pa_cons (pe_call oT.ok (hr.mono (by decide)) (by rfl) oT.gl oT.kp oT.bd .nil pass0 (pa_cons (pv 0) (pa_cons (pv 1) pa_nil))) (pa_cons (pe_call oT.ok (hr.mono (by decide)) (by rfl) oT.gl oT.kp oT.bd .nil pass0 (pa_cons (pv 0) (pa_cons (pv 1) pa_nil))) pa_nil)))))), ?_⟩
    refine run_D (X := E) (S := mkS K C T cls) (N := N_arrow) (by walk_at "sv") ?_ h
    intro ds Q hq
    unfold arrowM at hq
    split at hq
    · rename_i n
      exact fun c hc => ⟨hq.1, fun x hx => ⟨hq.1, fun y hy => ⟨by show 3 ≤ 100000; decide, hq.2 [.inr ⟨#[c]⟩, .inl x, .inl y] ⟨c, x, y, rfl, hc, hx.1, hx.2, hy.1, hy.2⟩⟩⟩⟩
    · exact hq.elim
/-- a web as the law draws it -/
structure WebK (n : Int) (As Ms : List Ks) : Prop where
  n0 : 0 ≤ n
  ka : ∀ k ∈ As, AK n k
  km : ∀ k ∈ Ms, MK n k
  sa : SrtK As As
  sm : SrtK Ms Ms
  la : As.length ≤ 3900
  lm : Ms.length ≤ 3900
def webM : List D → M D
  | [.box, .int lo, .int hi] => M.bnd (M.req (0 ≤ lo ∧ lo ≤ hi ∧ hi ≤ 30)) fun _ => M.bnd (M.all fun p : Int × List Ks × List Ks => lo ≤ p.1 ∧ p.1 ≤ hi ∧ WebK p.1 p.2.1 p.2.2 ∧ (p.2.1.length : Int) ≤ 2 * p.1 + 3 ∧ (p.2.2.length : Int) ≤ p.1 + 2) fun p => M.ret (mwD p.1 p.2.1 p.2.2)
  | _ => M.fail
theorem SrtK.self {l u : List Ks} (h : SrtK l u) : SrtK u u := ⟨fun _ h => h, fun _ h => h, h.nd, h.ris⟩
theorem SrtK.len {l u : List Ks} (h : SrtK l u) : u.length ≤ l.length := List.Nodup.length_le_of_subset h.nd fun k hk => h.of k hk
theorem paired_len {α β : Type} {R : α → β → Prop} : ∀ {l : List α} {m : List β}, Paired R l m → m.length = l.length
  | _, _, .nil => rfl
  | _, _, .cons _ t => congrArg (· + 1) (paired_len t)
theorem ties_all {l : List D} {P : Ks → Prop} (h : ∀ d ∈ l, ∃ k, d = tieD k ∧ P k) : ∃ ks : List Ks, l = ks.map tieD ∧ ∀ k ∈ ks, P k := by
  induction l with
  | nil => exact ⟨[], rfl, fun k hk => nomatch hk⟩
  | cons d l ih =>
    obtain ⟨k, rfl, hk⟩ := h d (List.mem_cons_self ..)
    obtain ⟨ks, rfl, hks⟩ := ih fun x hx => h x (List.mem_cons_of_mem _ hx)
    refine ⟨k :: ks, rfl, fun x hx => ?_⟩
    rcases List.mem_cons.mp hx with rfl | hx
    · exact hk
    · exact hks x hx
theorem MK.tie' {n : Int} {k : Ks} (h : MK n k) (hn : n ≤ 128) : TieK 128 2 k := MK.tie h hn
theorem len_web {ds : List D} {Q : _ → Prop} (h : (webM ds).run Q) : ds.length = 3 := by
  unfold webM at h
  split at h
  · rfl
  · exact h.elim
abbrev N_web : List Str := ["_law_box_here", "_law_low", "_law_high", "_law_many", "_law_crowd", "_law_my_arrows", "_law_k", "_law_my_marks"]
theorem sc_web : FnScope N_web ["_law_box_here", "_law_low", "_law_high"] (defScope sWeb) := ⟨rfl, rfl, rfl, by decide +kernel, rfl, by decide +kernel, by decide +kernel⟩
theorem ok_web {f fT fO fA fS fU : Addr} {fd dT dO dA dS dU : FuncData} (F : Fun K "_law_web" "_law_web" sWeb f fd) (b : Bq mg) (oO : Df P w K mg base 2 "_law_one" ["_law_box_here", "_law_some"] (spD (mkS K C T cls) oneM) fO dO) (oT : Df P w K mg base 1 "_law_take" ["_law_box_here", "_law_many"] (spD (mkS K C T cls) takeM) fT dT) (oA : Df P w K mg base 4 "_law_arrow" ["_law_box_here", "_law_many"] (spD (mkS K C T cls) arrowM) fA dA) (oS : Df P w K mg base 3 "_law_sign" ["_law_box_here"] (spD (mkS K C T cls) signM) fS dS) (oU : Df P w K mg base 1 "_law_unlike" ["_law_some"] (spL (mkS K C T cls) unlM) fU dU) : FnOk P w K mg base CX0 5 f fd ["_law_box_here", "_law_low", "_law_high"] (spD (mkS K C T cls) webM) := by
  refine F.ok sc_web (fun vs H Q E h => ?_) (fun cdv A outer s H vs Q E hr h => ?_)
  · obtain ⟨B, G, ds, _, r, h⟩ := h
    rw [r.length]
    exact len_web h
  · have hu5 : (A.deeper (envOfC "_law_web" (defScope sWeb) s.heap.objs.size f cdv)).units + 65 < cLine := by
      have := hr.un
      omega
    have hu : (A.deeper (envOfC "_law_web" (defScope sWeb) s.heap.objs.size f cdv)).units + 64 < cLine := by omega
    have hu1 : (A.deeper (envOfC "_law_web" (defScope sWeb) s.heap.objs.size f cdv)).units + 1 < cLine := by omega
    refine ⟨_, (pss_cons (ps_set (i := 3) sc_web.nd rfl (.inr rfl) (pe_op op_add (pv 1) (pe_call oT.ok (hr.mono (by decide)) (by rfl) oT.gl oT.kp oT.bd .nil pass0 (pa_cons (pv 0) (pa_cons (pe_op op_add (pe_op op_sub (pv 2) (pv 1)) pe_int) pa_nil)))))
      (pss_cons (ps_if (pt_cmpR op_eq (pv 3) pe_int (nomark _)) (pss_one (ps_ret (pe_tup (pa_cons pe_int (pa_cons (pe_lst pa_nil) (pa_cons (pe_lst pa_nil) pa_nil)))))) pss_nil)
      (pss_cons (ps_set (i := 4) sc_web.nd rfl (.inl rfl) (pe_call oO.ok (hr.mono (by decide)) (by rfl) oO.gl oO.kp oO.bd .nil pass0 (pa_cons (pv 0) (pa_cons (pe_lst (pa_cons (pv 3) (pa_cons (pv 3) (pa_cons (pe_op op_mul pe_int (pv 3)) (pa_cons pe_int pa_nil))))) pa_nil))))
      (pss_cons (ps_setLc (i := 5) (own := [("_law_k", 6)]) (g := gName 6) (tt := tYes) rfl sc_web.nd rfl rfl (sw_true rfl rfl rfl (by decide +kernel)) (pi_range1 (by rfl) b.range (pa_cons (pe_call oT.ok (hr.mono (by decide)) (by rfl) oT.gl oT.kp oT.bd .nil pass0 (pa_cons (pv 0) (pa_cons (pe_op op_add (pv 4) pe_int) pa_nil))) pa_nil)) (blkOk_by (N := N_web) (sc := defScope sWeb) (by decide +kernel)) (fun _ _ _ _ _ => (pg_name (i := 6) sc_web.nd rfl (.inl rfl))) (fun _ _ _ _ _ => pts_nil) (fun _ _ _ _ _ => (pe_call oA.ok (hr.mono (by decide)) (by rfl) oA.gl oA.kp oA.bd .nil pass0 (pa_cons (pv 0) (pa_cons (pv 3) pa_nil)))))
      (pss_cons (ps_setLc (i := 7) (own := [("_law_k", 6)]) (g := gName 6) (tt := tYes) rfl sc_web.nd rfl rfl (sw_true rfl rfl rfl (by decide +kernel)) (pi_range1 (by rfl) b.range (pa_cons (pe_call oO.ok (hr.mono (by decide)) (by rfl) oO.gl oO.kp oO.bd .nil pass0 (pa_cons (pv 0) (pa_cons (pe_lst (pa_cons pe_int (pa_cons pe_int (pa_cons pe_int (pa_cons pe_int (pa_cons (pv 3) pa_nil)))))) pa_nil))) pa_nil)) (blkOk_by (N := N_web) (sc := defScope sWeb) (by decide +kernel)) (fun _ _ _ _ _ => (pg_name (i := 6) sc_web.nd rfl (.inl rfl))) (fun _ _ _ _ _ => pts_nil) (fun _ _ _ _ _ => (pe_tup (pa_cons (pe_call oS.ok (hr.mono (by decide)) (by rfl) oS.gl oS.kp oS.bd .nil pass0 (pa_cons (pv 0) pa_nil)) (pa_cons (pe_call oT.ok (hr.mono (by decide)) (by rfl) oT.gl oT.kp oT.bd .nil pass0 (pa_cons (pv 0) (pa_cons (pv 3) pa_nil))) pa_nil)))))
      (pss_one (ps_ret (pe_tup (pa_cons (pv 3) (pa_cons (pe_call oU.ok (hr.mono (by decide)) (by rfl) oU.gl oU.kp oU.bd .nil pass0 (pa_cons (pv 5) pa_nil)) (pa_cons (pe_call oU.ok (hr.mono (by decide)) (by rfl) oU.gl oU.kp oU.bd .nil pass0 (pa_cons (pv 7) pa_nil)) pa_nil))))))))))), ?_⟩
    refine run_D (X := E) (S := mkS K C T cls) (N := N_web) (by walk_at "sv") ?_ h
    intro ds Q hq
    unfold webM at hq
    split at hq
    · rename_i lo hi
      have e : startE N_web.length [.box, .int lo, .int hi] = [some (.f (.box)), some (.f (.int lo)), some (.f (.int hi)), none, none, none, none, none] := rfl
      rw [e]
      simp only [takeM_go, oneM_go, run_bnd, run_ret, run_opt, run_req, run_all, run_choose, run_ite, then_nx, then_rt, then_rl, then_er, then_ct, then_bk, outD_rt, outD_rl, outD_nx, outL_rl, outX_rt, outX_rl, outX_nx, outX_er, mask_nil, mask_cons, mk0_f, mk0_o, mk0_od, mk0_ot, mk0_n, peek_nil, peek_cons, pk_f, pk_o, pk_od, pk_ot, pk_n, dOf_int, dOf_bl, dOf_str, dOf_non, opI0_int, opI_int, unI_int, asB_bl, asI_int, asL_lst, asT_tup, asW_web, eqS_int, eqS_str, ixL_lst, ixT_tup, ixQ_lst, ixQ_tup, lenD_lst, lenD_tup, listD_lst, listD_tup, catD_lst, rng1_int, rng2_int, sName_go, sTup_go, sCons_go, sNil_go, bTup_go, bCons_go, bNil_go, two_go, List.set_cons_zero, List.set_cons_succ, List.getElem?_cons_zero, List.getElem?_cons_succ, Option.join_some, atI_0, atI_1, atI_2, decide_eq_true_eq, wipeE, List.map_cons, List.map_nil, step_nx, step_ct, step_bk, step_rt, step_rl, step_er, vOf_int, vOf_str]
      obtain ⟨⟨hlo, hlh, hh⟩, hq⟩ := hq
      refine ⟨⟨by omega, by omega⟩, fun v hv => ?_⟩
      split
      · rename_i h0
        exact ⟨by decide, by decide, by show 3 ≤ 100000; decide, hq (0, [], []) ⟨by show lo ≤ 0; omega, by show 0 ≤ hi; omega, ⟨Int.le_refl _, (fun k hk => nomatch hk), (fun k hk => nomatch hk), ⟨fun _ h => h, fun _ h => h, .nil, .nil⟩, ⟨fun _ h => h, fun _ h => h, .nil, .nil⟩, by decide, by decide⟩, by show (0 : Int) ≤ 2 * 0 + 3; decide, by show (0 : Int) ≤ 0 + 2; decide⟩⟩
      · rename_i h0
        have hn : 0 < lo + v ∧ lo + v ≤ 30 ∧ lo ≤ lo + v ∧ lo + v ≤ hi := by omega
        generalize lo + v = n at hn hq ⊢
        refine ⟨.inl ⟨by decide, by decide⟩, by show 4 ≤ 100000; decide, ⟨(fun z => nomatch z), by show 4 ≤ 1000; decide⟩, fun c hc => ?_⟩
        obtain ⟨ci, rfl, c0, c1⟩ : ∃ ci : Int, c = .int ci ∧ 0 ≤ ci ∧ ci ≤ 3900 ∧ ci ≤ 2 * n + 3 := by
          simp only [List.mem_cons, List.not_mem_nil, or_false] at hc
          rcases hc with rfl | rfl | rfl | rfl
          · exact ⟨_, rfl, by omega, by omega, by omega⟩
          · exact ⟨_, rfl, by omega, by omega, by omega⟩
          · exact ⟨_, rfl, by omega, by omega, by omega⟩
          · exact ⟨_, rfl, by omega, by omega, by omega⟩
        refine ⟨⟨by omega, by omega⟩, fun m hm => ⟨⟨by omega, by omega⟩, by rw [rngD_len]; omega, ?_⟩⟩
        refine ex_ret (M.sel_map (R := fun _ d => ∃ k, d = tieD k ∧ AK n k) fun d hd => ?_) fun as has => ?_
        · exact ⟨⟨by omega, by omega⟩, fun k hk => ⟨_, rfl, k, rfl, hk⟩⟩
        have hal := paired_len has
        rw [rngD_len] at hal
        obtain ⟨ka, rfl, hka⟩ := ties_all (P := AK n) (Paired.right (P := fun d => ∃ k, d = tieD k ∧ AK n k) (fun _ _ h => h) has)
        rw [List.length_map] at hal
        refine ⟨by show 5 ≤ 100000; decide, ⟨(fun z => nomatch z), by show 5 ≤ 1000; decide⟩, fun c hc => ?_⟩
        obtain ⟨di, rfl, d0, d1⟩ : ∃ ci : Int, c = .int ci ∧ 0 ≤ ci ∧ ci ≤ 3900 ∧ ci ≤ n + 2 := by
          simp only [List.mem_cons, List.not_mem_nil, or_false] at hc
          rcases hc with rfl | rfl | rfl | rfl | rfl
          · exact ⟨_, rfl, by omega, by omega, by omega⟩
          · exact ⟨_, rfl, by omega, by omega, by omega⟩
          · exact ⟨_, rfl, by omega, by omega, by omega⟩
          · exact ⟨_, rfl, by omega, by omega, by omega⟩
          · exact ⟨_, rfl, by omega, by omega, by omega⟩
        refine ⟨⟨by omega, by omega⟩, by rw [rngD_len]; omega, ?_⟩
        refine ex_ret (M.sel_map (R := fun _ d => ∃ k, d = tieD k ∧ MK n k) fun d hd => ?_) fun bs hbs => ?_
        · exact fun c hc => ⟨⟨by omega, by omega⟩, fun x hx => ⟨by show 2 ≤ 100000; decide, _, rfl, [.inr ⟨#[c]⟩, .inl x], rfl, c, x, rfl, hc, hx.1, hx.2⟩⟩
        have hbl := paired_len hbs
        rw [rngD_len] at hbl
        obtain ⟨kb, rfl, hkb⟩ := ties_all (P := MK n) (Paired.right (P := fun d => ∃ k, d = tieD k ∧ MK n k) (fun _ _ h => h) hbs)
        rw [List.length_map] at hbl
        refine ⟨ka, ⟨rfl, ⟨3, fun k hk => (hka k hk).tie (by omega)⟩, by omega⟩, fun ua ha => ⟨kb, ⟨rfl, ⟨2, fun k hk => (hkb k hk).tie (by omega)⟩, by omega⟩, fun ub hb => ?_⟩⟩
        have la := ha.len
        have lb := hb.len
        exact ⟨by show 3 ≤ 100000; decide, hq (n, ua, ub) ⟨by omega, by omega, ⟨by omega, fun k hk => hka k (ha.of k hk), fun k hk => hkb k (hb.of k hk), ha.self, hb.self, by show ua.length ≤ 3900; omega, by show ub.length ≤ 3900; omega⟩, by show (ua.length : Int) ≤ 2 * n + 3; omega, by show (ub.length : Int) ≤ n + 2; omega⟩⟩
    · exact hq.elim
end
end Dv
namespace Dv
open PySem PySem.Spec PyProof.Rows L2 RZ Sg Tm Wb
local macro_rules | `(tactic| walk_at "r2") => `(tactic| first | with_reducible exact r_I0 | with_reducible exact r_I | with_reducible exact r_eq | with_reducible exact r_ne | with_reducible exact r_isN | with_reducible exact r_notN | with_reducible exact r_ixL | with_reducible exact r_ixT | with_reducible exact r_ixQ | with_reducible exact r_eqD | with_reducible exact r_neD | with_reducible exact r_inD | with_reducible exact r_notInD | with_reducible exact r_isB | with_reducible exact r_notB)
local macro_rules | `(tactic| walk_at "r2l") => `(tactic| first | with_reducible exact r_cat)
local macro_rules | `(tactic| walk_at "rc") => `(tactic| first | with_reducible exact r_len | with_reducible exact r_all)
local macro_rules | `(tactic| walk_at "rcl") => `(tactic| first | with_reducible exact r_list)
local macro_rules | `(tactic| walk_at "eo") => `(tactic| first | with_reducible exact eo_none | (with_reducible apply eo_some; walk_at "ed"))
local macro_rules | `(tactic| walk_at "ea") => `(tactic| first | with_reducible exact ea_nil | (with_reducible apply ea_star; walk_at "ed"; walk_at "ea") | (with_reducible apply ea_cons; walk_at "ed"; walk_at "ea"))
local macro_rules | `(tactic| walk_at "et") => `(tactic| first
  | with_reducible exact et_yes
  | (with_reducible apply et_test; walk_at "ed") | (with_reducible apply et_B; walk_at "ed") | (with_reducible apply et_not; walk_at "et")
  | (with_reducible apply et_and; walk_at "et"; walk_at "et") | (with_reducible apply et_or; walk_at "et"; walk_at "et"))
local macro_rules | `(tactic| walk_at "eg") => `(tactic| first | with_reducible exact eg_name | (with_reducible apply eg_tup; walk_at "egs"))
local macro_rules | `(tactic| walk_at "egs") => `(tactic| first | with_reducible exact eg_nil | (with_reducible apply eg_cons; walk_at "eg"; walk_at "egs"))
local macro_rules | `(tactic| walk_at "es") => `(tactic| first | with_reducible exact es_name | (with_reducible apply es_tup; walk_at "ess"))
local macro_rules | `(tactic| walk_at "ess") => `(tactic| first | with_reducible exact es_nil | (with_reducible apply es_cons; walk_at "es"; walk_at "ess"))
local macro_rules | `(tactic| walk_at "ei") => `(tactic| first | (with_reducible apply ei_list; walk_at "ed") | (with_reducible apply ei_tup; walk_at "ed") | (with_reducible apply ei_rng1; walk_at "ea") | (with_reducible apply ei_rng2; walk_at "ea") | (with_reducible apply ei_str; walk_at "ed"))
local macro_rules | `(tactic| walk_at "el") => `(tactic| first
  | (with_reducible apply el_lst; walk_at "ea")
  | (focus (with_reducible apply el_lc; rotate_left; walk_at "ei"; walk_at "eg"; walk_at "et"; walk_at "ed"; decide))
  | (with_reducible apply el_op; walk_at "r2l"; walk_at "ed"; walk_at "ed")
  | (with_reducible apply el_cb; walk_at "rcl"; walk_at "ea")
  | (with_reducible apply el_sl; walk_at "ed"; walk_at "eo"; walk_at "eo")
  | (with_reducible apply el_call; walk_at "ea")
  | walk_at "el+"
  | (with_reducible apply el_meth; decide; walk_at "ed"; walk_at "ea"))
local macro_rules | `(tactic| walk_at "ed") => `(tactic| first
  | with_reducible exact ed_var | with_reducible exact ed_c
  | (with_reducible apply ed_op; walk_at "r2"; walk_at "ed"; walk_at "ed")
  | (with_reducible apply ed_call; walk_at "ea")
  | (with_reducible apply ed_callX; walk_at "ea")
  | (with_reducible apply ed_tup; walk_at "ea")
  | (with_reducible apply ed_if; walk_at "et"; walk_at "ed"; walk_at "ed")
  | (with_reducible apply ed_cb; walk_at "rc"; walk_at "ea")
  | (with_reducible apply ed_un r_U; walk_at "ed")
  | (with_reducible apply ed_chain; walk_at "r2"; walk_at "r2"; walk_at "ed"; walk_at "ed"; walk_at "ed")
  | (with_reducible apply ed_andV; walk_at "ed"; walk_at "ed") | (with_reducible apply ed_orV; walk_at "ed"; walk_at "ed")
  | (with_reducible apply ed_meth; decide; walk_at "ed"; walk_at "ea")
  | walk_at "ed+"
  | (with_reducible apply EvL.d; walk_at "el"))
local macro_rules | `(tactic| walk_at "svF") => `(tactic| first
  | (with_reducible apply sv_seq; walk_at "svF"; walk_at "svF")
  | (with_reducible apply sv_asg; walk_at "ed")
  | (with_reducible apply sv_if; walk_at "et"; walk_at "svF"; walk_at "svF")
  | (with_reducible apply sv_for; walk_at "ei"; walk_at "es"; walk_at "svF")
  | walk_at "sv")
local macro_rules | `(tactic| walk_at "sv") => `(tactic| first
  | with_reducible exact sv_next | with_reducible exact sv_break | with_reducible exact sv_cont | with_reducible exact sv_never | with_reducible exact sv_retN
  | (with_reducible apply sv_seq; walk_at "sv"; walk_at "sv")
  | (with_reducible apply sv_asgL; walk_at "el")
  | (with_reducible apply sv_asg; walk_at "ed")
  | (with_reducible apply sv_if; walk_at "et"; walk_at "sv"; walk_at "sv")
  | (with_reducible apply sv_for; walk_at "ei"; walk_at "es"; walk_at "sv")
  | (with_reducible apply sv_par; walk_at "ea")
  | (with_reducible apply sv_app; walk_at "ed")
  | (with_reducible apply sv_ret; walk_at "ed")
  | (with_reducible apply sv_asgT; walk_at "ed"; walk_at "es")
  | (with_reducible apply sv_drop; walk_at "ed"))
local macro_rules | `(tactic| walk_at "ed+") => `(tactic| first | (with_reducible apply ed_chain; walk_at "r2"; walk_at "r2"; walk_at "ed"; walk_at "ed"; walk_at "ed") | (with_reducible apply ed_isi; walk_at "ed"))
section
variable {P : Program} {w : World} {K : PySem.W.Frag} {mg : Str → Option Value} {base : Heap} {C : Addr} {T : List (Addr × Str)} {cls : Str → Addr}
/-- raise C(e) -/
theorem sv_raise {X : XK} {te : TE} {m : Env → M D} {c : Addr} {w f : Str} (hc : cls w = c) (hf : f ≠ "word") (h : EvD (mkS K C T cls) te m) : SvD (mkS K C T cls) X (fun _ σ H => tMkO c (spE c f w) [] (tCons te tNil) σ H fun k d H' => X k d H') (fun ρ => M.bnd (m (peek ρ)) fun d => M.bnd (M.opt (vOf d)) fun v => M.ret (.er ⟨w, f, v⟩)) := fun B H0 G0 σ H ρ E ⟨G, A, r⟩ q => by
  subst hc
  obtain ⟨G1, k, er, c0, back⟩ := r.peek
  refine h B σ H G1 (peek ρ) _ k er ((m (peek ρ)).mono (fun d hd v H1 G2 k1 c1 r1 => ?_) q)
  obtain ⟨u, hu, hd⟩ := M.run_opt hd
  rw [rp_vOf hu r1]
  refine mkE (te := tC u) (σ := σ) (H := H1) (H1 := H1) (v := u) (fun Q' q => q) fun dd H' nd hdd sm => ?_
  obtain ⟨k2, c2⟩ := old_ok k1 (fun a o _ _ e => sm a o e) (fun a e => FrA.sub (show Sub H1 H' from sm) e) (fun b q e => (k1.bx b q e).sub sm) (tabs_sub sm k1.tb)
  have c3 := (c0.trans c1).trans c2
  exact (show RsE B H0 G0 X ⟨w, f, u⟩ from hd) dd H' G2 k2 c3 ((c0.trans c1).fr _ (FrA.of nd)) (by rw [xdF_f hf]; exact hdd)
theorem pe_atK {X : Cx} {e : Ecs} {T : List (Addr × Str)} {g c PT : Addr} {fd : FuncData} {k : Nat} {params : Arguments} {body : Expr} {scope : Scope} {t : XK → TE} {p lpos pos : Pos} (hK : X.K = K) (F : Fun K "_law_at" "_law_at" sAt g fd) (hm : X.mg "_law_at" = some (.ref g)) (hb : Binds K fd ["_law_ask"] []) (G : AtG X.mg e) (hg : Gl X "_law_at") (TB : LamX.TabB X.base X.mg c PT) (hcode : X.env.code = .ref c) (hmT : (PT, X.env.qual ++ "<lambda>") ∈ T)
    (hu : ∀ p ∈ T, p.1 = PT → p.2 = X.env.qual ++ "<lambda>") (hr : Room (k + 2) X.A) (L : LamX.LamS X.env.scope scope) (hdef : defaultsOf params X.env = ([], [])) (hbind : ∀ (q : Str) (cl : List (Str × Addr)) (pm cv ctv : Value), bindArgs (PySem.W.kla_fn "<lambda>" q params body scope cl pm cv ctv) ⟨[], []⟩ = pure [])
    (hbody : ∀ (A : Around) (outer : List PySem.Env) (s : Shared) (H : Hp) (E : XK) (f c' : Addr), Room k (A.deeper (LamX.lamEnv X scope s.heap.objs.size f c')) → PE (LamX.lamCx X A outer s H E scope f c') body (t E)) :
    PE X (.Call (.Name "_law_at" p) [.Lambda params body scope lpos] [] pos) (LamX.tLam T (TAt K e) t) := by
  subst hK
  exact pe_at F hm hb G hg TB hcode hmT hu hr L hdef hbind hbody
local macro_rules | `(tactic| walk_at "svX") => `(tactic| first
  | (with_reducible apply sv_seq; walk_at "svX"; walk_at "svX")
  | (with_reducible apply sv_if; walk_at "et"; walk_at "svX"; walk_at "svX")
  | (with_reducible apply sv_for; walk_at "ei"; walk_at "es"; walk_at "svX")
  | (with_reducible apply sv_raise rfl; decide; walk_at "ed")
  | walk_at "sv")
/-- what _law_at tells -/
def AtOk (K : PySem.W.Frag) (cls : Str → Addr) (e : Ecs) (x : Exn) : Prop := ∃ fI, AtC K e (cls x.w) x.f ∧ ErrC K (cls x.w) fI x.f ∧ x.f ≠ "word"
def atM (K : PySem.W.Frag) (cls : Str → Addr) (e : Ecs) : Rx → M D
  | .ok _ => M.ret .non
  | .er x => M.bnd (M.req (AtOk K cls e x)) fun _ => M.bnd (M.opt (dOf x.v)) fun d => M.ret (.tup [.str x.w, d])
theorem bx_ext {H H' : Hp} {b q : Addr} (s : LamX.ExtN H H') (h : BxAt H b q) : BxAt H' b q := bx_extN s h
theorem ed_at {e : Ecs} {t : XK → TE} {m : Env → M Rx} (h : EvX (mkS K C T cls) t m) : EvD (mkS K C T cls) (LamX.tLam T (TAt K e) t) (fun ρ => M.bnd (m ρ) (atM K cls e)) := fun B σ H G ρ Q k er q => by
  refine ⟨k.tb, fun H1 x1 t1 E1 Q1 hE hQ => ?_⟩
  have k1 : Ok B H1 G := ⟨fun a o g => x1 a o (k.sub a o g) (fun ps z => by subst z; exact k.nt a ps g), k.nm, fun b q e => bx_ext x1 (k.bx b q e), t1, k.nt⟩
  have c1 : Ch B H G H1 G := ⟨fun a o _ n g => x1 a o g n, fun a f o g => by
    by_cases z : ∃ ps, o = .tbl ps
    · exact z
    · exact f o (x1 a o g fun ps e => z ⟨ps, e⟩), Sub.refl G, fun _ _ g => .inl g⟩
  refine h B σ H1 G ρ Q1 E1 k1 er ((m ρ).mono (fun r hr => ?_) q)
  cases r with
  | ok d => exact fun v H2 G2 k2 c2 r2 => hQ v H2 ((show Rs1 _ B H G Q .non from hr) .non H2 G2 k2 (c1.trans c2) .non)
  | er x =>
    obtain ⟨⟨fI, a1, a2, a3⟩, hr⟩ := hr
    obtain ⟨d, hd, hr⟩ := M.run_opt hr
    refine fun dd H2 G2 k2 c2 n2 e2 => hE _ _ _ ⟨cls x.w, fI, dd, x.f, x.w, x.v, rfl, a1, a2, rfl, by rw [xdF_f a3] at e2; exact e2, a3, fun p hp => ?_⟩
    obtain ⟨k3, c3⟩ := k2.put hp (.tup [.str x.w, x.v]) (fun _ z => nomatch z)
    exact (show Rs1 _ B H G Q (.tup [.str x.w, d]) from hr) _ _ _ k3 ((c1.trans c2).trans c3) (.tup (SqT.of upd_same) (.cons (.str _) (.cons (rp_dOf hd) .nil)))
end
end Dv
namespace Dv
open PySem PySem.Spec PyProof.Rows L2 Sg
variable {S : Base} {B : Bo S} {X : XK}
/-! ### sorted -/
structure SrtP (l u : List Ks) : Prop where
  perm : u.Perm l
  ris : u.Pairwise fun p q => TS.code 128 (p.map numK) ≤ TS.code 128 (q.map numK)
def srtM : List D → M (List D)
  | [.lst es] => M.bnd (M.choose fun l : List Ks => es = l.map tieD ∧ (∃ d, ∀ k ∈ l, TieK 128 d k) ∧ l.length < 4000) fun l => M.bnd (M.all fun u => SrtP l u) fun u => M.ret (u.map tieD)
  | _ => M.fail
theorem r_sort {P : Program} {w : World} : RCL S (rSortX S.K P w) srtM := fun B H G vs ds Q k r h => by
  unfold srtM at h
  split at h
  · obtain ⟨l, ⟨rfl, ⟨d, hd⟩, h64⟩, h⟩ := h
    cases r with
    | cons r1 r2 =>
      cases r2
      obtain ⟨a, ks, rfl, h1, h2, h3⟩ := list_of (l := l) r1
      subst h3
      rw [List.length_map] at h64
      refine ⟨a, ks, d, 128, rfl, .inr ⟨SqL.of (k.sub _ _ h1), h64⟩, fun p hp => sub_tup k.sub (h2 p hp), fun p hp => hd _ (List.mem_map.mpr ⟨p, hp, rfl⟩), fun L' p pm pw _ np => ?_⟩
      exact Rs2.lay k (show Rs2 S B H G Q ((L'.map (·.2)).map tieD) from h _ ⟨pm.map _, by rw [List.pairwise_map]; exact pw⟩) (rp_refs fun z hz => h2 z (pm.mem_iff.mp hz)) np
  · exact h.elim
section
variable {Y : Cx} {K : PySem.W.Frag} {P : Program} {w : World}
theorem dv_sort (h : Y.K = K) (hp : Y.prog = P) (hw : Y.w = w) (hc : Y.calm = true) : CallR Y (.builtin "sorted") (rSortX K P w) := by
  subst h hp hw
  exact cr_sortX hc
end
/-! ### a method of a list -/
theorem ed_bmL {r : V → List V → Hp → VK → Prop} {f : List D → List D → M D} {ta : TE} {t : TA} {ma : Env → M D} {m : Env → M (List D)} (hr : ∀ B H G a xs ds vs es Q, Ok B H G → G a = some (.lst xs) → RpA S B G xs ds → RpA S B G vs es → (f ds es).run (Rs1 S B H G Q) → r (.ref a) vs H Q) (ha : EvD S ta ma) (h : EvA S t m) : EvD S (tBM S.K "list" r ta t) (fun ρ => M.bnd (ma ρ) fun d => M.bnd (asL d) fun l => M.bnd (m ρ) fun es => f l es) := fun B σ H G ρ Q k er q =>
  ha B σ H G ρ _ k er ((ma ρ).mono (fun d hd v H1 G1 k1 c1 r1 => by
    obtain ⟨l, rfl, hd⟩ := asL_run hd
    cases r1 with
    | lst hx hr1 =>
      refine ⟨.inl ⟨rfl, _, SqL.of (k1.sub _ _ hx)⟩, ?_⟩
      refine h B σ H1 G1 ρ _ k1 (er.mono c1.ext) ((m ρ).mono (fun es he vs H2 G2 k2 c2 r2 => ?_) hd)
      exact hr B H2 G2 _ _ l vs es Q k2 (c2.ext _ _ hx) (hr1.mono c2.ext) r2 ((f l es).mono (fun y hy => hy.after (c1.trans c2)) he)) q)
/-- list.index, of whole numbers -/
def idxM : List D → List D → M D
  | ds, [.int x] => M.bnd (M.choose fun p : List Int × Nat => ds = p.1.map D.int ∧ p.1[p.2]? = some x ∧ ∀ m, m < p.2 → p.1[m]? ≠ some x) fun p => M.ret (.int (p.2 : Int))
  | _, _ => M.fail
theorem ints_of {G : Hp} : ∀ {xs : List V} {js : List Int}, RpA S B G xs (js.map D.int) → xs = js.map V.int
  | _, [], h => by cases h; rfl
  | _, j :: js, h => by
    cases h with
    | cons a b => cases a; rw [ints_of b]; rfl
theorem ed_index {ta tb : TE} {ma mb : Env → M D} (ha : EvD S ta ma) (hb : EvD S tb mb) : EvD S (tBM S.K "list" (rIndex S.K) ta (tCons tb tNil)) (fun ρ => M.bnd (ma ρ) fun d => M.bnd (asL d) fun l => M.bnd (M.bnd (mb ρ) fun x => M.bnd (M.ret []) fun xs => M.ret (x :: xs)) fun es => idxM l es) :=
  ed_bmL (f := idxM) (fun B H G a xs ds vs es Q k hx hr h2 h => by
    unfold idxM at h
    split at h
    · obtain ⟨⟨js, j⟩, ⟨rfl, hj, hn⟩, h⟩ := h
      rename_i x
      cases h2 with
      | cons a1 a2 =>
        cases a1
        cases a2
        rw [ints_of hr] at hx
        refine ⟨_, _, _, j, .int x, rfl, rfl, SqL.of (k.sub _ _ hx), rfl, ?_, ?_, ?_, ?_, Rs1.now k h (.int _)⟩
        · refine List.all_eq_true.mpr fun v hv => ?_
          obtain ⟨i, _, rfl⟩ := List.mem_map.mp hv
          rfl
        · rw [List.getElem?_map, hj]; rfl
        · show decide (x = x) = true
          exact decide_eq_true rfl
        · intro m z hm hz
          rw [List.getElem?_map] at hz
          cases e : js[m]? with
          | none => rw [e] at hz; cases hz
          | some y =>
            rw [e] at hz
            cases hz
            refine decide_eq_false fun z => hn m hm ?_
            rw [e, ← z]
    · exact h.elim) ha (ea_cons hb ea_nil)
/-! ### max -/
def maxM : List D → M D
  | [.int i, .int j] => M.ret (.int (max i j))
  | _ => M.fail
theorem r_max : RCD S (fun xs H Q => ∃ i j, xs = [.int i, .int j] ∧ Q (.int (if j > i then j else i)) H) maxM := fun B H G vs ds Q k r h => by
  unfold maxM at h
  split at h
  · rename_i i j
    cases r with
    | cons a b =>
      cases b with
      | cons b c =>
        cases a; cases b; cases c
        refine ⟨_, _, rfl, ?_⟩
        rw [show (if j > i then j else i) = max i j by split <;> omega]
        exact Rs1.now k h (.int _)
  · exact h.elim
def minM : List D → M D
  | [.int i, .int j] => M.ret (.int (min i j))
  | _ => M.fail
theorem r_min : RCD S (fun xs H Q => ∃ i j, xs = [.int i, .int j] ∧ Q (.int (if j < i then j else i)) H) minM := fun B H G vs ds Q k r h => by
  unfold minM at h
  split at h
  · rename_i i j
    cases r with
    | cons a b =>
      cases b with
      | cons b c =>
        cases a; cases b; cases c
        refine ⟨_, _, rfl, ?_⟩
        rw [show (if j < i then j else i) = min i j by split <;> omega]
        exact Rs1.now k h (.int _)
  · exact h.elim
theorem maxM_go (i j : Int) : maxM [.int i, .int j] = M.ret (.int (max i j)) := rfl
theorem minM_go (i j : Int) : minM [.int i, .int j] = M.ret (.int (min i j)) := rfl
/-! ### a dict of texts, looked up -/
theorem ed_disp2 {a b c d : Str} : EvD S (tDisp [(tC (.str a), tC (.str b)), (tC (.str c), tC (.str d))]) (fun _ => M.bnd (M.req (a ≠ c)) fun _ => M.ret (.dk [(.inr a, .str b), (.inr c, .str d)])) := fun B σ H G ρ Q k er q p hp => by
  obtain ⟨hac, q⟩ := q
  refine ⟨upd_same, [(.inr a, .str b), (.inr c, .str d)], rfl, by show 2 ≤ 15; decide, ?_⟩
  rw [upd_upd]
  have e : mergeK [] [(.inr a, V.str b), (.inr c, V.str d)] = [(.inr a, .str b), (.inr c, .str d)] := by
    simp [mergeK, putK, hac]
  rw [e]
  obtain ⟨k1, c1⟩ := k.put hp (.dK [(.inr a, .str b), (.inr c, .str d)]) (fun _ z => nomatch z)
  exact (show Rs1 S B H G Q (.dk [(.inr a, .str b), (.inr c, .str d)]) from q) _ _ _ k1 c1 (.dk upd_same rfl (.cons (.str _) (.cons (.str _) .nil)))
def keyOf : D → Option Key
  | .int i => some (.inl i)
  | .str x => some (.inr x)
  | _ => none
def valD (es : List (Key × D)) (k : Key) : Option D := (es.find? fun kv => decide (kv.1 = k)).map (·.2)
theorem val_of {G : Hp} {k : Key} : ∀ {kvs : List (Key × V)} {es : List (Key × D)}, kvs.map (·.1) = es.map (·.1) → RpA S B G (kvs.map (·.2)) (es.map (·.2)) → (valV kvs k = none ∧ valD es k = none) ∨ ∃ v d, valV kvs k = some v ∧ valD es k = some d ∧ Rp S B G v d
  | [], [], _, _ => .inl ⟨rfl, rfl⟩
  | [], _ :: _, h, _ => by cases h
  | _ :: _, [], h, _ => by cases h
  | (k1, v) :: kvs, (k2, d) :: es, h, r => by
    simp only [List.map_cons, List.cons.injEq] at h
    obtain ⟨rfl, h⟩ := h
    cases r with
    | cons r1 r2 =>
      have ih := val_of (k := k) h r2
      unfold valV valD at ih ⊢
      by_cases e : k1 = k
      · right
        simp only [List.find?_cons, e, decide_true, Option.map_some]
        exact ⟨v, d, rfl, rfl, r1⟩
      · simp only [List.find?_cons, decide_eq_false e]
        exact ih
def getM : D → D → D → M D
  | .dk es, y, z => M.bnd (M.opt (keyOf y)) fun k => M.ret ((valD es k).getD z)
  | _, _, _ => M.fail
theorem rp_keyOf {G : Hp} {v : V} {d : D} {k : Key} (h : keyOf d = some k) (r : Rp S B G v d) : v = kV k := by
  cases r <;> first
    | (cases h; rfl)
    | cases h
def asK : D → M D
  | .dk es => M.ret (.dk es)
  | _ => M.fail
theorem asK_run {d : D} {Q : D → Prop} (h : (asK d).run Q) : ∃ es, d = .dk es ∧ Q (.dk es) := by
  cases d <;> first | exact ⟨_, rfl, h⟩ | exact h.elim
theorem ed_dget2 {td ty tx : TE} {md my mx : Env → M D} (hd : EvD S td md) (hy : EvD S ty my) (hx : EvD S tx mx) : EvD S (tDGet2 td ty tx) (fun ρ => M.bnd (md ρ) fun d => M.bnd (asK d) fun d => M.bnd (my ρ) fun y => M.bnd (mx ρ) fun z => getM d y z) := fun B σ H G ρ Q k er q =>
  hd B σ H G ρ _ k er ((md ρ).mono (fun d hd v H1 G1 k1 c1 r1 => by
    obtain ⟨es, rfl, hd⟩ := asK_run hd
    cases r1 with
    | dk ha he hr =>
      refine ⟨_, rfl, .inl ⟨_, .inl (k1.sub _ _ ha)⟩, ?_⟩
      refine hy B σ H1 G1 ρ _ k1 (er.mono c1.ext) ((my ρ).mono (fun y hy v2 H2 G2 k2 c2 r2 => ?_) hd)
      refine hx B σ H2 G2 ρ _ k2 (er.mono (c1.trans c2).ext) ((mx ρ).mono (fun z hz v3 H3 G3 k3 c3 r3 => ?_) hy)
      obtain ⟨kk, hk, hz⟩ := M.run_opt hz
      dsimp only at hz
      have c13 := (c1.trans c2).trans c3
      rw [rp_keyOf hk r2]
      refine ⟨_, .inl ⟨_, kk, .inl (k3.sub _ _ ((c2.trans c3).ext _ _ ha)), rfl, rfl⟩, ?_⟩
      rcases val_of (k := kk) he (hr.mono (c2.trans c3).ext) with ⟨e1, e2⟩ | ⟨v, d, e1, e2, e3⟩
      · rw [e1]; rw [e2] at hz
        exact (show Rs1 S B H G Q z from hz) _ H3 G3 k3 c13 r3
      · rw [e1]; rw [e2] at hz
        exact (show Rs1 S B H G Q d from hz) _ H3 G3 k3 c13 e3) q)
theorem getM_go (es : List (Key × D)) (x : Str) (z : D) : getM (.dk es) (.str x) z = M.ret ((valD es (.inr x)).getD z) := rfl
theorem asK_go (es : List (Key × D)) : asK (.dk es) = M.ret (.dk es) := rfl
/-! ### what may be refused, within an expression -/
def thX (f : D → M Rx) : Rx → M Rx
  | .ok d => f d
  | .er x => M.ret (.er x)
theorem thX_ok (f : D → M Rx) (d : D) : thX f (.ok d) = f d := rfl
theorem thX_er (f : D → M Rx) (x : Exn) : thX f (.er x) = M.ret (.er x) := rfl
theorem ex_opL {r : R2} {f : D → D → M D} {ta : XK → TE} {tb : TE} {ma : Env → M Rx} {mb : Env → M D} (hr : R2D S r f) (ha : EvX S ta ma) (hb : EvD S tb mb) : EvX S (fun E => tOp r (ta E) tb) (fun ρ => M.bnd (ma ρ) (thX fun x => M.bnd (mb ρ) fun y => M.bnd (f x y) fun z => M.ret (.ok z))) := fun B σ H G ρ Q X k er q =>
  ha B σ H G ρ _ X k er ((ma ρ).mono (fun x hx => by
    cases x with
    | er e => exact hx
    | ok d => exact fun v H1 G1 k1 c1 r1 => hb B σ H1 G1 ρ _ k1 (er.mono c1.ext) ((mb ρ).mono (fun e he v2 H2 G2 k2 c2 r2 => hr B H2 G2 v v2 d e Q k2 (r1.mono c2.ext) r2 ((f d e).mono (fun z hz => Rs1.after (c1.trans c2) hz) he)) hx)) q)
theorem ex_callI {f : List D → M Rx} {i : Int} {t : TA} {m : Env → M (List D)} (h : EvA S t m) : EvX S (fun E => tCall (spX S f) [.int i] E t) (fun ρ => M.bnd (m ρ) fun l => f (l ++ [.int i])) := fun B σ H G ρ Q X k er q =>
  h B σ H G ρ _ k er ((m ρ).mono (fun l hl vs H1 G1 k1 c1 r1 => ⟨B, G1, _, k1, r1.append (.cons (.int i) .nil), (f _).mono (fun z hz => hz.after c1) hl⟩) q)
theorem ed_callNX {f : List D → M Rx} {E : XK} {n k' : Nat} {gV : List V → List V → List V} {gD : List D → List D → List D} {t tk : TA} {m mk : Env → M (List D)} (hg : ∀ {B : Bo S} {G : Hp} {vs zs : List V} {ds es : List D}, RpA S B G vs ds → RpA S B G zs es → ds.length = n → es.length = k' → RpA S B G (gV vs zs) (gD ds es)) (h : EvA S t m) (hk : EvA S tk mk) : EvD S (tCallN n k' (spX S f) gV E t tk) (fun ρ => M.bnd (m ρ) fun l => M.bnd (mk ρ) fun z => M.bnd (M.req (l.length = n ∧ z.length = k')) fun _ => M.bnd (f (gD l z)) okR) := fun B σ H G ρ Q k er q =>
  h B σ H G ρ _ k er ((m ρ).mono (fun l hl vs H1 G1 k1 c1 r1 => hk B σ H1 G1 ρ _ k1 (er.mono c1.ext) ((mk ρ).mono (fun z hz zs H2 G2 k2 c2 r2 => ⟨by rw [r1.length]; exact hz.1.1, by rw [r2.length]; exact hz.1.2, B, G2, _, k2, hg (r1.mono c2.ext) r2 hz.1.1 hz.1.2, (f _).mono (fun y hy => by
    cases y with
    | ok d => exact Rs1.after (c1.trans c2) hy
    | er x => exact hy.elim) hz.2⟩) hl)) q)
/-! ### x.insert(e, y) -/
theorem sv_ins {i j : Nat} {te : TE} {m : Env → M D} (h : EvD S te m) : SvD S X (tDrop (tBM S.K "list" (fun x vs H Q => ∃ (l : Addr) (xs : List V) (i : Int) (y : V), x = .ref l ∧ vs = [.int i, y] ∧ H l = some (.lst xs) ∧ xs.length < sizeLine ∧ 0 ≤ i ∧ i < 2 ^ 63 ∧ Q .non (upd H l (.lst (xs.take i.toNat ++ [y] ++ xs.drop i.toNat)))) (tVar i) (tCons te (tCons (tVar j) tNil)))) (fun ρ => M.bnd (ownL ρ i) fun ds => M.bnd (M.req (ds.length < 100000)) fun _ => M.bnd (m (peek ρ)) fun d => M.bnd (asI d) fun a => M.bnd (M.req (0 ≤ a ∧ a < 2 ^ 63)) fun _ => M.bnd (M.opt ((mask ρ)[j]?.join)) fun d => M.ret (.nx (ρ.set i (some (.o (ds.take a.toNat ++ [d] ++ ds.drop a.toNat)))))) := fun B H0 G0 σ H ρ E ⟨G, A, r⟩ q => by
  obtain ⟨ds, e, hl, q⟩ := ownL_run q
  obtain ⟨h1, h2, h3, o, h4, h5⟩ := r.ow i _ e rfl
  cases o <;> first
    | exact h5.elim
    | (rename_i xs
       refine ⟨_, h1, .inl ⟨rfl, _, SqL.of h4⟩, ?_⟩
       obtain ⟨Gp, kp, er, c0, back⟩ := r.peek
       refine h B σ H Gp (peek ρ) _ kp er ((m (peek ρ)).mono (fun d hd v H1 G1 k1 c1 r1 => ?_) q)
       obtain ⟨G', r', _⟩ := back H1 G1 k1 c1
       cases r1 <;> first
         | exact hd.elim
         | (rename_i a
            obtain ⟨⟨a0, a1⟩, hd⟩ := hd
            obtain ⟨y, hy, hd⟩ := M.run_opt hd
            have ey : (mask ρ)[j]? = some (some y) := by
              cases e : (mask ρ)[j]? with
              | none => rw [e] at hy; cases hy
              | some z => rw [e] at hy; cases z with
                | none => cases hy
                | some z => cases hy; rfl
            obtain ⟨u, hu, ru⟩ := r'.mask.get j y ey
            obtain ⟨_, _, _, o', h4', h5'⟩ := r'.ow i _ e rfl
            have h6 := c1.ch _ (.lst xs) (r.nb h2) (fun _ z => nomatch z) h4
            rw [h6] at h4'
            cases h4'
            refine ⟨u, hu, _, xs, a, u, rfl, rfl, h6, ?_, a0, a1, (show ∀ σ H, Rs S B H0 G0 σ H _ → E.nx σ H from hd) _ _ ⟨G', A, r'.put (s' := .o (ds.take a.toNat ++ [y] ++ ds.drop a.toNat)) e rfl rfl (((RpA.take _ h5').append (.cons ru .nil)).append (RpA.drop _ h5'))⟩⟩
            rw [RpA.length h5]
            exact Nat.lt_of_lt_of_le hl (by decide)))
section
variable {Y : Cx} {K : PySem.W.Frag} {o e : Expr} {es : List Expr} {to : TE} {t : TA} {name : Str} {apos cpos : Pos} {T id : String} {r : V → List V → Hp → VK → Prop}
theorem pe_bmK (hK : Y.K = K) (pa : PlainAttrs T) (slot : Slot T name id) (hty : typeOf (.builtin id) = pure (.type "method_descriptor")) (hm : MtR Y id r) (ho : PE Y o to) (ha : PA Y (e :: es) t)
    (hbase : attributeBase o name Y.env (eval o Y.env) = eval o Y.env := by rfl)
    (hfew : ((backTo cpos (starEach (e :: es) Y.env)).all (fun x => !x.1) && (backToKw cpos (keywordEach [] Y.env)).all (fun x => x.1.isSome)
      && decide ((e :: es).length + ([] : List Keyword).length + (if ([] : List Keyword).isEmpty then 0 else 1) < 30)) = true := by rfl)
    (hline : (apos.endLine == cpos.line) = true := by rfl) (hs : starEach (e :: es) Y.env = (false, eval e Y.env) :: starEach es Y.env := by rfl) (hplain : (backTo cpos (starEach es Y.env)).any (·.1) = false := by rfl) :
    PE Y (.Call (.Attribute o name apos) (e :: es) [] cpos) (tBM K T r to t) := by
  subst hK
  exact pe_bm pa slot hty hm ho ha hbase hfew hline hs hplain
theorem dm_index (hK : Y.K = K) : MtR Y "list.index" (rIndex K) := by subst hK; exact mt_index
theorem dv_max (hc : Y.calm = true) : CallR Y (.builtin "max") (fun xs H Q => ∃ i j, xs = [.int i, .int j] ∧ Q (.int (if j > i then j else i)) H) := call_max2 hc
theorem dv_min (hc : Y.calm = true) : CallR Y (.builtin "min") (fun xs H Q => ∃ i j, xs = [.int i, .int j] ∧ Q (.int (if j < i then j else i)) H) := call_min2 hc
end
theorem own_0 (l : List D) (ρ : Ev) : ownL (some (.o l) :: ρ) 0 = M.ret l := rfl
theorem own_S (s : Option Sl) (ρ : Ev) (i : Nat) : ownL (s :: ρ) (i + 1) = ownL ρ i := by
  unfold ownL
  rw [List.getElem?_cons_succ]
/-- some are taken: what holds of each -/
theorem M.sel_any {α β : Type} {f : α → M (Option β)} {P : β → Prop} : ∀ {l : List α}, (∀ a ∈ l, (f a).run fun o => ∀ b, o = some b → P b) → (M.sel f l).run fun bs => bs.length ≤ l.length ∧ ∀ b ∈ bs, P b
  | [], _ => ⟨Nat.le_refl _, fun b hb => nomatch hb⟩
  | a :: l, h => (f a).mono (fun o ho => (M.sel f l).mono (fun bs hb => by
    show (match o with | some x => x :: bs | none => bs).length ≤ l.length + 1 ∧ ∀ b ∈ (match o with | some x => x :: bs | none => bs), P b
    cases o with
    | none => exact ⟨Nat.le_succ_of_le hb.1, hb.2⟩
    | some x => exact ⟨Nat.succ_le_succ hb.1, fun b hx => (List.mem_cons.mp hx).elim (fun e => by rw [e]; exact ho x rfl) (hb.2 b)⟩) (M.sel_any fun x hx => h x (List.mem_cons_of_mem _ hx))) (h a (List.mem_cons_self ..))
/-- where a number stands -/
def idxI : List Int → Int → Nat
  | [], _ => 0
  | a :: l, x => if a = x then 0 else idxI l x + 1
theorem idx_at {x : Int} : ∀ {l : List Int}, x ∈ l → l[idxI l x]? = some x
  | a :: l, h => by
    unfold idxI
    by_cases e : a = x
    · rw [if_pos e, e]; rfl
    · rw [if_neg e, List.getElem?_cons_succ]
      exact idx_at ((List.mem_cons.mp h).resolve_left fun z => e z.symm)
theorem idx_no {x : Int} : ∀ {l : List Int} {m : Nat}, m < idxI l x → l[m]? ≠ some x
  | [], m, h => by simp
  | a :: l, m, h => by
    unfold idxI at h
    by_cases e : a = x
    · rw [if_pos e] at h; omega
    · rw [if_neg e] at h
      cases m with
      | zero => intro z; cases z; exact e rfl
      | succ m => rw [List.getElem?_cons_succ]; exact idx_no (by omega)
theorem idx_lt {x : Int} {l : List Int} (h : x ∈ l) : idxI l x < l.length := (List.getElem?_eq_some_iff.mp (idx_at h)).1
theorem idx_inj {x y : Int} {l : List Int} (hx : x ∈ l) (hy : y ∈ l) (e : idxI l x = idxI l y) : x = y := by
  have h1 := idx_at hx
  rw [e, idx_at hy] at h1
  exact (Option.some.inj h1).symm
theorem std_str1 {c : Nat} (h : c = 97 ∨ c = 98 ∨ c = 99 ∨ c = 112 ∨ c = 113 ∨ c = 114) : (D.str ⟨#[c]⟩).std := by
  rcases h with rfl | rfl | rfl | rfl | rfl | rfl <;> exact ⟨⟨rfl, by decide +kernel, by simp [D.deep]⟩, rfl⟩
theorem key_inj : ∀ {k l : Ks}, k.map kDd = l.map kDd → k = l
  | [], [], _ => rfl
  | [], _ :: _, h => by cases h
  | _ :: _, [], h => by cases h
  | a :: k, b :: l, h => by
    simp only [List.map_cons, List.cons.injEq] at h
    rw [key_inj h.2]
    have := h.1
    cases a <;> cases b <;> simp only [kDd] at this <;> cases this <;> rfl
theorem tie_inj {k l : Ks} (h : tieD k = tieD l) : k = l := key_inj (D.tup.inj h)
theorem inL_t (d : D) (l : List D) : inL true d (.lst l) = M.bnd (M.req (d.good ∧ (D.lst l).good)) fun _ => M.ret (.bl (!inD d l)) := rfl
theorem inL_f (d : D) (l : List D) : inL false d (.lst l) = M.bnd (M.req (d.good ∧ (D.lst l).good)) fun _ => M.ret (.bl (inD d l)) := rfl
theorem allM_go (l : List D) : allM [.lst l] = M.bnd (M.choose fun bs : List Bool => l = bs.map D.bl) fun bs => M.ret (.bl (bs.all id)) := rfl
theorem ints_all {l : List D} (h : ∀ d ∈ l, ∃ k : Int, d = .int k) : ∃ js : List Int, l = js.map D.int := by
  induction l with
  | nil => exact ⟨[], rfl⟩
  | cons d l ih =>
    obtain ⟨k, rfl⟩ := h d (List.mem_cons_self ..)
    obtain ⟨js, rfl⟩ := ih fun x hx => h x (List.mem_cons_of_mem _ hx)
    exact ⟨k :: js, rfl⟩
theorem iDD_eq (l : List Int) : iDD l = .lst (l.map D.int) := rfl
theorem nodup_mapOn {α β : Type} {f : α → β} : ∀ {l : List α}, (∀ a ∈ l, ∀ b ∈ l, f a = f b → a = b) → l.Nodup → (l.map f).Nodup
  | [], _, _ => List.nodup_nil
  | a :: l, h, nd => by
    rw [List.nodup_cons] at nd
    rw [List.map_cons, List.nodup_cons]
    refine ⟨fun hm => ?_, nodup_mapOn (fun x hx y hy => h x (List.mem_cons_of_mem _ hx) y (List.mem_cons_of_mem _ hy)) nd.2⟩
    obtain ⟨b, hb, e⟩ := List.mem_map.mp hm
    rw [h a (List.mem_cons_self ..) b (List.mem_cons_of_mem _ hb) e.symm] at nd
    exact nd.1 hb
/-! ### list(range(n)) -/
theorem rp_rg {G : Hp} (lo hi : Int) : RpA S B G (rgV lo hi) (rngD lo (hi - lo).toNat) := by
  unfold rgV rngD
  generalize List.range (hi - lo).toNat = l
  induction l with
  | nil => exact .nil
  | cons a l ih => exact .cons (.int _) ih
theorem el_listRg {ta : TE} {ma : Env → M D} (ha : EvD S ta ma) : EvL S (tLstRg (tRg1 ta)) (fun ρ => M.bnd (ma ρ) fun d => M.bnd (asI d) fun n => M.bnd (M.req (-(2 ^ 62) ≤ n ∧ n ≤ 100000)) fun _ => M.ret (rngD 0 n.toNat)) := fun B σ H G ρ Q k er q =>
  ha B σ H G ρ _ k er ((ma ρ).mono (fun d hd v H1 G1 k1 c1 r1 => by
    cases r1 <;> first
      | exact hd.elim
      | (rename_i n
         obtain ⟨⟨h1, h2⟩, hd⟩ := hd
         refine ⟨n, rfl, ⟨by decide, by decide, h1, by omega, by omega⟩, fun p hp => ?_⟩
         have := rp_rg (S := S) (B := B) (G := G1) 0 n
         rw [Int.sub_zero] at this
         exact Rs2.lay k1 (Rs2.after c1 (show Rs2 S B H G Q (rngD 0 n.toNat) from hd)) this hp)) q)
/-- where ways meet -/
theorem seq_cut {m : M Ou} {h : Ev → M Ou} {P : Ou → Prop} (I : Ev → Prop) (h1 : m.run fun o => ∃ ρ, o = .nx ρ ∧ I ρ) (h2 : ∀ ρ, I ρ → (h ρ).run P) : (M.bnd m (thenM h)).run P := m.mono (fun o ⟨ρ, e, hi⟩ => by
  subst e
  exact h2 ρ hi) h1
end Dv
namespace Dv
open PySem PySem.Spec PyProof.Rows L2 RZ Sg Tm Wb
local macro_rules | `(tactic| walk_at "r2") => `(tactic| first | with_reducible exact r_I0 | with_reducible exact r_I | with_reducible exact r_eq | with_reducible exact r_ne | with_reducible exact r_isN | with_reducible exact r_notN | with_reducible exact r_ixL | with_reducible exact r_ixT | with_reducible exact r_ixQ | with_reducible exact r_eqD | with_reducible exact r_neD | with_reducible exact r_inD | with_reducible exact r_notInD | with_reducible exact r_isB | with_reducible exact r_notB)
local macro_rules | `(tactic| walk_at "r2l") => `(tactic| first | with_reducible exact r_cat)
local macro_rules | `(tactic| walk_at "rc") => `(tactic| first | with_reducible exact r_len | with_reducible exact r_all)
local macro_rules | `(tactic| walk_at "rcl") => `(tactic| first | with_reducible exact r_list)
local macro_rules | `(tactic| walk_at "eo") => `(tactic| first | with_reducible exact eo_none | (with_reducible apply eo_some; walk_at "ed"))
local macro_rules | `(tactic| walk_at "ea") => `(tactic| first | with_reducible exact ea_nil | (with_reducible apply ea_star; walk_at "ed"; walk_at "ea") | (with_reducible apply ea_cons; walk_at "ed"; walk_at "ea"))
local macro_rules | `(tactic| walk_at "et") => `(tactic| first
  | with_reducible exact et_yes
  | (with_reducible apply et_test; walk_at "ed") | (with_reducible apply et_B; walk_at "ed") | (with_reducible apply et_not; walk_at "et")
  | (with_reducible apply et_and; walk_at "et"; walk_at "et") | (with_reducible apply et_or; walk_at "et"; walk_at "et"))
local macro_rules | `(tactic| walk_at "eg") => `(tactic| first | with_reducible exact eg_name | (with_reducible apply eg_tup; walk_at "egs"))
local macro_rules | `(tactic| walk_at "egs") => `(tactic| first | with_reducible exact eg_nil | (with_reducible apply eg_cons; walk_at "eg"; walk_at "egs"))
local macro_rules | `(tactic| walk_at "es") => `(tactic| first | with_reducible exact es_name | (with_reducible apply es_tup; walk_at "ess"))
local macro_rules | `(tactic| walk_at "ess") => `(tactic| first | with_reducible exact es_nil | (with_reducible apply es_cons; walk_at "es"; walk_at "ess"))
local macro_rules | `(tactic| walk_at "ei") => `(tactic| first | (with_reducible apply ei_list; walk_at "ed") | (with_reducible apply ei_tup; walk_at "ed") | (with_reducible apply ei_rng1; walk_at "ea") | (with_reducible apply ei_rng2; walk_at "ea") | (with_reducible apply ei_str; walk_at "ed"))
local macro_rules | `(tactic| walk_at "el") => `(tactic| first
  | (with_reducible apply el_lst; walk_at "ea")
  | (focus (with_reducible apply el_lc; rotate_left; walk_at "ei"; walk_at "eg"; walk_at "et"; walk_at "ed"; decide))
  | (with_reducible apply el_op; walk_at "r2l"; walk_at "ed"; walk_at "ed")
  | (with_reducible apply el_cb; walk_at "rcl"; walk_at "ea")
  | (with_reducible apply el_sl; walk_at "ed"; walk_at "eo"; walk_at "eo")
  | (with_reducible apply el_call; walk_at "ea")
  | walk_at "el+"
  | (with_reducible apply el_meth; decide; walk_at "ed"; walk_at "ea"))
local macro_rules | `(tactic| walk_at "ed") => `(tactic| first
  | with_reducible exact ed_var | with_reducible exact ed_c
  | (with_reducible apply ed_op; walk_at "r2"; walk_at "ed"; walk_at "ed")
  | (with_reducible apply ed_call; walk_at "ea")
  | (with_reducible apply ed_callX; walk_at "ea")
  | (with_reducible apply ed_tup; walk_at "ea")
  | (with_reducible apply ed_if; walk_at "et"; walk_at "ed"; walk_at "ed")
  | (with_reducible apply ed_cb; walk_at "rc"; walk_at "ea")
  | (with_reducible apply ed_un r_U; walk_at "ed")
  | (with_reducible apply ed_chain; walk_at "r2"; walk_at "r2"; walk_at "ed"; walk_at "ed"; walk_at "ed")
  | (with_reducible apply ed_andV; walk_at "ed"; walk_at "ed") | (with_reducible apply ed_orV; walk_at "ed"; walk_at "ed")
  | (with_reducible apply ed_meth; decide; walk_at "ed"; walk_at "ea")
  | walk_at "ed+"
  | (with_reducible apply EvL.d; walk_at "el"))
local macro_rules | `(tactic| walk_at "svF") => `(tactic| first
  | (with_reducible apply sv_seq; walk_at "svF"; walk_at "svF")
  | (with_reducible apply sv_asg; walk_at "ed")
  | (with_reducible apply sv_if; walk_at "et"; walk_at "svF"; walk_at "svF")
  | (with_reducible apply sv_for; walk_at "ei"; walk_at "es"; walk_at "svF")
  | walk_at "sv")
local macro_rules | `(tactic| walk_at "sv") => `(tactic| first
  | with_reducible exact sv_next | with_reducible exact sv_break | with_reducible exact sv_cont | with_reducible exact sv_never | with_reducible exact sv_retN
  | (with_reducible apply sv_seq; walk_at "sv"; walk_at "sv")
  | (with_reducible apply sv_asgL; walk_at "el")
  | (with_reducible apply sv_asg; walk_at "ed")
  | (with_reducible apply sv_if; walk_at "et"; walk_at "sv"; walk_at "sv")
  | (with_reducible apply sv_for; walk_at "ei"; walk_at "es"; walk_at "sv")
  | (with_reducible apply sv_par; walk_at "ea")
  | (with_reducible apply sv_app; walk_at "ed")
  | (with_reducible apply sv_ret; walk_at "ed")
  | (with_reducible apply sv_asgT; walk_at "ed"; walk_at "es")
  | (with_reducible apply sv_drop; walk_at "ed"))
local macro_rules | `(tactic| walk_at "ed+") => `(tactic| first | (with_reducible apply ed_chain; walk_at "r2"; walk_at "r2"; walk_at "ed"; walk_at "ed"; walk_at "ed") | (with_reducible apply ed_mk2; walk_at "ea"; walk_at "ea"))
theorem srtK_eq {d : Nat} {l u v : List Ks} (hu : SrtK l u) (hv : SrtK l v) (ht : ∀ k ∈ l, TieK 128 d k) : u = v := by
  have e : ∀ m : List Ks, (m.map fun k => ((0, k) : TK)).map (·.2) = m := fun m => by
    rw [List.map_map]
    exact List.map_id _
  have := same_keys (B := 128) (d := d) (U := u.map fun k => ((0, k) : TK)) (V := v.map fun k => ((0, k) : TK)) (fun p hp => by
    obtain ⟨k, hk, rfl⟩ := List.mem_map.mp hp
    exact ht k (hu.of k hk)) (fun p hp => by
    obtain ⟨k, hk, rfl⟩ := List.mem_map.mp hp
    exact ht k (hv.of k hk)) (by rw [e]; exact hu.nd) (by rw [e]; exact hv.nd) (by rw [List.pairwise_map]; exact hu.ris) (by rw [List.pairwise_map]; exact hv.ris) (fun k => by
    rw [e, e]
    exact ⟨fun h => hv.all k (hu.of k h), fun h => hu.all k (hv.of k h)⟩)
  rw [e, e] at this
  exact this
theorem WebK.self {n : Int} {As Ms : List Ks} (h : WebK n As Ms) (hn : n ≤ 81) {u v : List Ks} (hu : SrtK As u) (hv : SrtK Ms v) : u = As ∧ v = Ms :=
  ⟨srtK_eq hu h.sa fun k hk => (h.ka k hk).tie (by omega), srtK_eq hv h.sm fun k hk => (h.km k hk).tie (by omega)⟩
theorem std_tieA {n : Int} {k : Ks} (h : AK n k) : (tieD k).std ∧ (tieD k).deep ≤ 1 := by
  obtain ⟨c, x, y, rfl, hc, _⟩ := h
  refine ⟨std_tup (n := 0) (by decide) fun d hd => ?_, by simp [tieD, D.deep, deepL, kDd]⟩
  simp only [List.map_cons, List.map_nil, kDd, List.mem_cons, List.not_mem_nil, or_false] at hd
  rcases hd with rfl | rfl | rfl
  · exact ⟨std_str1 (by omega), by simp [D.deep]⟩
  · exact ⟨std_int _, by simp [D.deep]⟩
  · exact ⟨std_int _, by simp [D.deep]⟩
theorem std_tieM {n : Int} {k : Ks} (h : MK n k) : (tieD k).std ∧ (tieD k).deep ≤ 1 := by
  obtain ⟨c, x, rfl, hc, _⟩ := h
  refine ⟨std_tup (n := 0) (by decide) fun d hd => ?_, by simp [tieD, D.deep, deepL, kDd]⟩
  simp only [List.map_cons, List.map_nil, kDd, List.mem_cons, List.not_mem_nil, or_false] at hd
  rcases hd with rfl | rfl
  · exact ⟨std_str1 (by omega), by simp [D.deep]⟩
  · exact ⟨std_int _, by simp [D.deep]⟩
theorem std_liA {n : Int} {l : List Ks} (h : ∀ k ∈ l, AK n k) : (lD l).std := std_lst (n := 1) (by decide) fun d hd => by
  obtain ⟨k, hk, rfl⟩ := List.mem_map.mp hd
  exact std_tieA (h k hk)
theorem std_liM {n : Int} {l : List Ks} (h : ∀ k ∈ l, MK n k) : (lD l).std := std_lst (n := 1) (by decide) fun d hd => by
  obtain ⟨k, hk, rfl⟩ := List.mem_map.mp hd
  exact std_tieM (h k hk)
theorem img_atD {js : List Int} {i : Int} (h0 : 0 ≤ i) (h : i < (js.length : Int)) : L2.atI (js.map D.int) i = some (.int (img js i)) := by
  rw [atI_get h0 (by rw [List.length_map]; omega), List.getElem_map]
  congr 2
  unfold img
  rw [List.getD_eq_getElem?_getD, List.getElem?_eq_getElem (by omega)]
  rfl
section
variable {P : Program} {w : World} {K : PySem.W.Frag} {mg : Str → Option Value} {base : Heap} {C : Addr} {T : List (Addr × Str)} {cls : Str → Addr}
def madeM : List D → M D
  | [.tup [.int n, .lst es, .lst fs]] => mkM n es fs
  | _ => M.fail
theorem len_made {ds : List D} {Q : D → Prop} (h : (madeM ds).run Q) : ds.length = 1 := by
  unfold madeM at h
  split at h
  · rfl
  · exact h.elim
abbrev N_made : List Str := ["_law_m"]
theorem sc_made : FnScope N_made ["_law_m"] (defScope sMade) := ⟨rfl, rfl, rfl, by decide +kernel, rfl, by decide +kernel, by decide +kernel⟩
theorem ok_made {f fI ta tm : Addr} {fd dI : FuncData} (F : Fun K "_law_made" "_law_made" sMade f fd) (gW : mg "Web" = some (.ref C)) (M : Mk K C fI) (FI : FunD K "__init__" "Web.__init__" (defArgs sInit) (defBody sInit) (defScope sInit) [] [("arrows", .ref ta), ("marks", .ref tm)] fI dI) (oI : FnOk P w K mg base CX0 2 fI dI psI (spInit K C)) : FnOk P w K mg base CX0 4 f fd ["_law_m"] (spD (mkS K C T cls) madeM) := by
  obtain ⟨mv2, k2⟩ := kb2 FI (fun z => nomatch z)
  refine F.ok sc_made (fun vs H Q E h => ?_) (fun cdv A outer s H vs Q E hr h => ?_)
  · obtain ⟨B, G, ds, _, r, h⟩ := h
    rw [r.length]
    exact len_made h
  · have hu5 : (A.deeper (envOfC "_law_made" (defScope sMade) s.heap.objs.size f cdv)).units + 65 < cLine := by
      have := hr.un
      omega
    have hu : (A.deeper (envOfC "_law_made" (defScope sMade) s.heap.objs.size f cdv)).units + 64 < cLine := by omega
    have hu1 : (A.deeper (envOfC "_law_made" (defScope sMade) s.heap.objs.size f cdv)).units + 1 < cLine := by omega
    refine ⟨_, (pss_one (ps_ret (pe_makeK M oI hr (by rfl) gW k2 pass0 (pa_cons (pe_ix (dx_tup (K := K) rfl) (pv 0) pe_int (fun _ _ => rfl)) pa_nil) (pk_cons (pe_ix (dx_tup (K := K) rfl) (pv 0) pe_int (fun _ _ => rfl)) (pk_cons (pe_ix (dx_tup (K := K) rfl) (pv 0) pe_int (fun _ _ => rfl)) pk_nil))))), ?_⟩
    refine run_D (X := E) (S := mkS K C T cls) (N := N_made) (by walk_at "sv") ?_ h
    intro ds Q hq
    unfold madeM at hq
    split at hq
    · rename_i n es fs
      have e : startE N_made.length [.tup [.int n, .lst es, .lst fs]] = [some (.f (.tup [.int n, .lst es, .lst fs]))] := rfl
      rw [e]
      simp only [mk2, run_bnd, run_ret, run_opt, run_req, run_all, run_choose, run_ite, then_nx, then_rt, then_rl, then_er, then_ct, then_bk, outD_rt, outD_rl, outD_nx, outL_rl, outX_rt, outX_rl, outX_nx, outX_er, mask_nil, mask_cons, mk0_f, mk0_o, mk0_od, mk0_ot, mk0_n, peek_nil, peek_cons, pk_f, pk_o, pk_od, pk_ot, pk_n, dOf_int, dOf_bl, dOf_str, dOf_non, opI0_int, opI_int, unI_int, asB_bl, asI_int, asL_lst, asT_tup, asW_web, eqS_int, eqS_str, ixL_lst, ixT_tup, ixQ_lst, ixQ_tup, lenD_lst, lenD_tup, listD_lst, listD_tup, catD_lst, rng1_int, rng2_int, sName_go, sTup_go, sCons_go, sNil_go, bTup_go, bCons_go, bNil_go, two_go, List.set_cons_zero, List.set_cons_succ, List.getElem?_cons_zero, List.getElem?_cons_succ, Option.join_some, atI_0, atI_1, atI_2, decide_eq_true_eq, wipeE, List.map_cons, List.map_nil, step_nx, step_ct, step_bk, step_rt, step_rl, step_er, vOf_int, vOf_str]
      exact hq
    · exact hq.elim
theorem webM_go (lo hi : Int) : webM [.box, .int lo, .int hi] = M.bnd (M.req (0 ≤ lo ∧ lo ≤ hi ∧ hi ≤ 30)) fun _ => M.bnd (M.all fun p : Int × List Ks × List Ks => lo ≤ p.1 ∧ p.1 ≤ hi ∧ WebK p.1 p.2.1 p.2.2 ∧ (p.2.1.length : Int) ≤ 2 * p.1 + 3 ∧ (p.2.2.length : Int) ≤ p.1 + 2) fun p => M.ret (mwD p.1 p.2.1 p.2.2) := rfl
theorem made_go {n : Int} {As Ms : List Ks} {Q : D → Prop} (h : WebK n As Ms) (hn : n ≤ 81) (q : Q (.web n As Ms)) : (madeM [mwD n As Ms]).run Q := by
  have la := h.la
  have lm := h.lm
  refine ⟨(As, Ms), ⟨rfl, rfl, h.n0, hn, h.ka, h.km, by show As.length < 4000; omega, by show Ms.length < 4000; omega⟩, fun ⟨u, v⟩ ⟨hu, hv⟩ => ?_⟩
  obtain ⟨e1, e2⟩ := h.self hn hu hv
  dsimp only at e1 e2
  subst e1 e2
  exact q
end
end Dv
namespace Dv
open PySem PySem.Spec PyProof.Rows L2 RZ Sg Tm Wb
local macro_rules | `(tactic| walk_at "r2") => `(tactic| first | with_reducible exact r_I0 | with_reducible exact r_I | with_reducible exact r_eq | with_reducible exact r_ne | with_reducible exact r_isN | with_reducible exact r_notN | with_reducible exact r_ixL | with_reducible exact r_ixT | with_reducible exact r_ixQ | with_reducible exact r_eqD | with_reducible exact r_neD | with_reducible exact r_inD | with_reducible exact r_notInD | with_reducible exact r_isB | with_reducible exact r_notB)
local macro_rules | `(tactic| walk_at "r2l") => `(tactic| first | with_reducible exact r_cat)
local macro_rules | `(tactic| walk_at "rc") => `(tactic| first | with_reducible exact r_len | with_reducible exact r_all)
local macro_rules | `(tactic| walk_at "rcl") => `(tactic| first | with_reducible exact r_list)
local macro_rules | `(tactic| walk_at "eo") => `(tactic| first | with_reducible exact eo_none | (with_reducible apply eo_some; walk_at "ed"))
local macro_rules | `(tactic| walk_at "ea") => `(tactic| first | with_reducible exact ea_nil | (with_reducible apply ea_star; walk_at "ed"; walk_at "ea") | (with_reducible apply ea_cons; walk_at "ed"; walk_at "ea"))
local macro_rules | `(tactic| walk_at "et") => `(tactic| first
  | with_reducible exact et_yes
  | (with_reducible apply et_test; walk_at "ed") | (with_reducible apply et_B; walk_at "ed") | (with_reducible apply et_not; walk_at "et")
  | (with_reducible apply et_and; walk_at "et"; walk_at "et") | (with_reducible apply et_or; walk_at "et"; walk_at "et"))
local macro_rules | `(tactic| walk_at "eg") => `(tactic| first | with_reducible exact eg_name | (with_reducible apply eg_tup; walk_at "egs"))
local macro_rules | `(tactic| walk_at "egs") => `(tactic| first | with_reducible exact eg_nil | (with_reducible apply eg_cons; walk_at "eg"; walk_at "egs"))
local macro_rules | `(tactic| walk_at "es") => `(tactic| first | with_reducible exact es_name | (with_reducible apply es_tup; walk_at "ess"))
local macro_rules | `(tactic| walk_at "ess") => `(tactic| first | with_reducible exact es_nil | (with_reducible apply es_cons; walk_at "es"; walk_at "ess"))
local macro_rules | `(tactic| walk_at "ei") => `(tactic| first | (with_reducible apply ei_list; walk_at "ed") | (with_reducible apply ei_tup; walk_at "ed") | (with_reducible apply ei_rng1; walk_at "ea") | (with_reducible apply ei_rng2; walk_at "ea") | (with_reducible apply ei_str; walk_at "ed"))
local macro_rules | `(tactic| walk_at "el") => `(tactic| first
  | (with_reducible apply el_lst; walk_at "ea")
  | (focus (with_reducible apply el_lc; rotate_left; walk_at "ei"; walk_at "eg"; walk_at "et"; walk_at "ed"; decide))
  | (with_reducible apply el_op; walk_at "r2l"; walk_at "ed"; walk_at "ed")
  | (with_reducible apply el_cb; walk_at "rcl"; walk_at "ea")
  | (with_reducible apply el_sl; walk_at "ed"; walk_at "eo"; walk_at "eo")
  | (with_reducible apply el_call; walk_at "ea")
  | walk_at "el+"
  | (with_reducible apply el_meth; decide; walk_at "ed"; walk_at "ea"))
local macro_rules | `(tactic| walk_at "ed") => `(tactic| first
  | with_reducible exact ed_var | with_reducible exact ed_c
  | (with_reducible apply ed_op; walk_at "r2"; walk_at "ed"; walk_at "ed")
  | (with_reducible apply ed_call; walk_at "ea")
  | (with_reducible apply ed_callX; walk_at "ea")
  | (with_reducible apply ed_tup; walk_at "ea")
  | (with_reducible apply ed_if; walk_at "et"; walk_at "ed"; walk_at "ed")
  | (with_reducible apply ed_cb; walk_at "rc"; walk_at "ea")
  | (with_reducible apply ed_un r_U; walk_at "ed")
  | (with_reducible apply ed_chain; walk_at "r2"; walk_at "r2"; walk_at "ed"; walk_at "ed"; walk_at "ed")
  | (with_reducible apply ed_andV; walk_at "ed"; walk_at "ed") | (with_reducible apply ed_orV; walk_at "ed"; walk_at "ed")
  | (with_reducible apply ed_meth; decide; walk_at "ed"; walk_at "ea")
  | walk_at "ed+"
  | (with_reducible apply EvL.d; walk_at "el"))
local macro_rules | `(tactic| walk_at "svF") => `(tactic| first
  | (with_reducible apply sv_seq; walk_at "svF"; walk_at "svF")
  | (with_reducible apply sv_asg; walk_at "ed")
  | (with_reducible apply sv_if; walk_at "et"; walk_at "svF"; walk_at "svF")
  | (with_reducible apply sv_for; walk_at "ei"; walk_at "es"; walk_at "svF")
  | walk_at "sv")
local macro_rules | `(tactic| walk_at "sv") => `(tactic| first
  | with_reducible exact sv_next | with_reducible exact sv_break | with_reducible exact sv_cont | with_reducible exact sv_never | with_reducible exact sv_retN
  | (with_reducible apply sv_seq; walk_at "sv"; walk_at "sv")
  | (with_reducible apply sv_asgL; walk_at "el")
  | (with_reducible apply sv_asg; walk_at "ed")
  | (with_reducible apply sv_if; walk_at "et"; walk_at "sv"; walk_at "sv")
  | (with_reducible apply sv_for; walk_at "ei"; walk_at "es"; walk_at "sv")
  | (with_reducible apply sv_par; walk_at "ea")
  | (with_reducible apply sv_app; walk_at "ed")
  | (with_reducible apply sv_ret; walk_at "ed")
  | (with_reducible apply sv_asgT; walk_at "ed"; walk_at "es")
  | (with_reducible apply sv_drop; walk_at "ed"))
local macro_rules | `(tactic| walk_at "rc") => `(tactic| first | with_reducible exact r_len | with_reducible exact r_all | with_reducible exact r_max | with_reducible exact r_min)
local macro_rules | `(tactic| walk_at "rcl") => `(tactic| first | with_reducible exact r_list | with_reducible exact r_sort)
local macro_rules | `(tactic| walk_at "el+") => `(tactic| (with_reducible apply el_listRg; walk_at "ed"))
local macro_rules | `(tactic| walk_at "edm") => `(tactic| first | (with_reducible apply ed_index; walk_at "ed"; walk_at "ed") | (with_reducible apply ed_dget2; walk_at "ed"; walk_at "ed"; walk_at "ed") | with_reducible exact ed_disp2 | (with_reducible apply ed_chain; walk_at "r2"; walk_at "r2"; walk_at "ed"; walk_at "ed"; walk_at "ed"))
local macro_rules | `(tactic| walk_at "ed+") => `(tactic| walk_at "edm")
local macro_rules | `(tactic| walk_at "ex") => `(tactic| first | (with_reducible apply ex_callI; walk_at "ea") | (with_reducible apply ex_call; walk_at "ea") | (with_reducible apply ex_opL; walk_at "r2"; walk_at "ex"; walk_at "ed"))
local macro_rules | `(tactic| walk_at "svM") => `(tactic| first
  | (with_reducible apply sv_seq; walk_at "svM"; walk_at "svM")
  | (with_reducible apply sv_ins; walk_at "ed")
  | (with_reducible apply sv_asg; walk_at "ed")
  | (with_reducible apply sv_asgX; walk_at "ex")
  | (with_reducible apply sv_retX; walk_at "ex")
  | (with_reducible apply sv_if; walk_at "et"; walk_at "svM"; walk_at "svM")
  | (with_reducible apply sv_for; walk_at "ei"; walk_at "es"; walk_at "svM")
  | walk_at "sv")
local macro_rules | `(tactic| walk_at "svO") => `(tactic| first
  | (with_reducible apply sv_seq; walk_at "svO"; walk_at "svO")
  | (with_reducible apply sv_asgL; walk_at "el")
  | (with_reducible apply sv_ins; walk_at "ed")
  | (with_reducible apply sv_for; walk_at "ei"; walk_at "es"; walk_at "svO")
  | with_reducible exact sv_retV
  | walk_at "sv")
theorem perm_ins {α : Type} (l : List α) (d : α) (a : Nat) : (l.take a ++ [d] ++ l.drop a).Perm (l ++ [d]) := by
  have h : (l.take a ++ [d] ++ l.drop a).Perm (l.take a ++ (l.drop a ++ [d])) := by
    rw [List.append_assoc]
    exact List.Perm.append_left _ List.perm_append_comm
  rw [← List.append_assoc, List.take_append_drop] at h
  exact h
theorem take_snoc {α : Type} {l : List α} {i : Nat} (h : i < l.length) : l.take (i + 1) = l.take i ++ [l[i]] := by
  rw [List.take_add_one, List.getElem?_eq_getElem h]
  rfl
section
variable {P : Program} {w : World} {K : PySem.W.Frag} {mg : Str → Option Value} {base : Heap} {C : Addr} {T : List (Addr × Str)} {cls : Str → Addr}
end
end Dv
namespace Dv
open PySem PySem.Spec PyProof.Rows L2 RZ Sg Tm Wb
local macro_rules | `(tactic| walk_at "r2") => `(tactic| first | with_reducible exact r_I0 | with_reducible exact r_I | with_reducible exact r_eq | with_reducible exact r_ne | with_reducible exact r_isN | with_reducible exact r_notN | with_reducible exact r_ixL | with_reducible exact r_ixT | with_reducible exact r_ixQ | with_reducible exact r_eqD | with_reducible exact r_neD | with_reducible exact r_inD | with_reducible exact r_notInD | with_reducible exact r_isB | with_reducible exact r_notB)
local macro_rules | `(tactic| walk_at "r2l") => `(tactic| first | with_reducible exact r_cat)
local macro_rules | `(tactic| walk_at "rc") => `(tactic| first | with_reducible exact r_len | with_reducible exact r_all)
local macro_rules | `(tactic| walk_at "rcl") => `(tactic| first | with_reducible exact r_list)
local macro_rules | `(tactic| walk_at "eo") => `(tactic| first | with_reducible exact eo_none | (with_reducible apply eo_some; walk_at "ed"))
local macro_rules | `(tactic| walk_at "ea") => `(tactic| first | with_reducible exact ea_nil | (with_reducible apply ea_star; walk_at "ed"; walk_at "ea") | (with_reducible apply ea_cons; walk_at "ed"; walk_at "ea"))
local macro_rules | `(tactic| walk_at "et") => `(tactic| first
  | with_reducible exact et_yes
  | (with_reducible apply et_test; walk_at "ed") | (with_reducible apply et_B; walk_at "ed") | (with_reducible apply et_not; walk_at "et")
  | (with_reducible apply et_and; walk_at "et"; walk_at "et") | (with_reducible apply et_or; walk_at "et"; walk_at "et"))
local macro_rules | `(tactic| walk_at "eg") => `(tactic| first | with_reducible exact eg_name | (with_reducible apply eg_tup; walk_at "egs"))
local macro_rules | `(tactic| walk_at "egs") => `(tactic| first | with_reducible exact eg_nil | (with_reducible apply eg_cons; walk_at "eg"; walk_at "egs"))
local macro_rules | `(tactic| walk_at "es") => `(tactic| first | with_reducible exact es_name | (with_reducible apply es_tup; walk_at "ess"))
local macro_rules | `(tactic| walk_at "ess") => `(tactic| first | with_reducible exact es_nil | (with_reducible apply es_cons; walk_at "es"; walk_at "ess"))
local macro_rules | `(tactic| walk_at "ei") => `(tactic| first | (with_reducible apply ei_list; walk_at "ed") | (with_reducible apply ei_tup; walk_at "ed") | (with_reducible apply ei_rng1; walk_at "ea") | (with_reducible apply ei_rng2; walk_at "ea") | (with_reducible apply ei_str; walk_at "ed"))
local macro_rules | `(tactic| walk_at "el") => `(tactic| first
  | (with_reducible apply el_lst; walk_at "ea")
  | (focus (with_reducible apply el_lc; rotate_left; walk_at "ei"; walk_at "eg"; walk_at "et"; walk_at "ed"; decide))
  | (with_reducible apply el_op; walk_at "r2l"; walk_at "ed"; walk_at "ed")
  | (with_reducible apply el_cb; walk_at "rcl"; walk_at "ea")
  | (with_reducible apply el_sl; walk_at "ed"; walk_at "eo"; walk_at "eo")
  | (with_reducible apply el_call; walk_at "ea")
  | walk_at "el+"
  | (with_reducible apply el_meth; decide; walk_at "ed"; walk_at "ea"))
local macro_rules | `(tactic| walk_at "ed") => `(tactic| first
  | with_reducible exact ed_var | with_reducible exact ed_c
  | (with_reducible apply ed_op; walk_at "r2"; walk_at "ed"; walk_at "ed")
  | (with_reducible apply ed_call; walk_at "ea")
  | (with_reducible apply ed_callX; walk_at "ea")
  | (with_reducible apply ed_tup; walk_at "ea")
  | (with_reducible apply ed_if; walk_at "et"; walk_at "ed"; walk_at "ed")
  | (with_reducible apply ed_cb; walk_at "rc"; walk_at "ea")
  | (with_reducible apply ed_un r_U; walk_at "ed")
  | (with_reducible apply ed_chain; walk_at "r2"; walk_at "r2"; walk_at "ed"; walk_at "ed"; walk_at "ed")
  | (with_reducible apply ed_andV; walk_at "ed"; walk_at "ed") | (with_reducible apply ed_orV; walk_at "ed"; walk_at "ed")
  | (with_reducible apply ed_meth; decide; walk_at "ed"; walk_at "ea")
  | walk_at "ed+"
  | (with_reducible apply EvL.d; walk_at "el"))
local macro_rules | `(tactic| walk_at "svF") => `(tactic| first
  | (with_reducible apply sv_seq; walk_at "svF"; walk_at "svF")
  | (with_reducible apply sv_asg; walk_at "ed")
  | (with_reducible apply sv_if; walk_at "et"; walk_at "svF"; walk_at "svF")
  | (with_reducible apply sv_for; walk_at "ei"; walk_at "es"; walk_at "svF")
  | walk_at "sv")
local macro_rules | `(tactic| walk_at "sv") => `(tactic| first
  | with_reducible exact sv_next | with_reducible exact sv_break | with_reducible exact sv_cont | with_reducible exact sv_never | with_reducible exact sv_retN
  | (with_reducible apply sv_seq; walk_at "sv"; walk_at "sv")
  | (with_reducible apply sv_asgL; walk_at "el")
  | (with_reducible apply sv_asg; walk_at "ed")
  | (with_reducible apply sv_if; walk_at "et"; walk_at "sv"; walk_at "sv")
  | (with_reducible apply sv_for; walk_at "ei"; walk_at "es"; walk_at "sv")
  | (with_reducible apply sv_par; walk_at "ea")
  | (with_reducible apply sv_app; walk_at "ed")
  | (with_reducible apply sv_ret; walk_at "ed")
  | (with_reducible apply sv_asgT; walk_at "ed"; walk_at "es")
  | (with_reducible apply sv_drop; walk_at "ed"))
local macro_rules | `(tactic| walk_at "rc") => `(tactic| first | with_reducible exact r_len | with_reducible exact r_all | with_reducible exact r_max | with_reducible exact r_min)
local macro_rules | `(tactic| walk_at "rcl") => `(tactic| first | with_reducible exact r_list | with_reducible exact r_sort)
local macro_rules | `(tactic| walk_at "el+") => `(tactic| (with_reducible apply el_listRg; walk_at "ed"))
local macro_rules | `(tactic| walk_at "edm") => `(tactic| first | (with_reducible apply ed_index; walk_at "ed"; walk_at "ed") | (with_reducible apply ed_dget2; walk_at "ed"; walk_at "ed"; walk_at "ed") | with_reducible exact ed_disp2 | (with_reducible apply ed_chain; walk_at "r2"; walk_at "r2"; walk_at "ed"; walk_at "ed"; walk_at "ed"))
local macro_rules | `(tactic| walk_at "ed+") => `(tactic| walk_at "edm")
local macro_rules | `(tactic| walk_at "ex") => `(tactic| first | (with_reducible apply ex_callI; walk_at "ea") | (with_reducible apply ex_call; walk_at "ea") | (with_reducible apply ex_opL; walk_at "r2"; walk_at "ex"; walk_at "ed"))
local macro_rules | `(tactic| walk_at "svM") => `(tactic| first
  | (with_reducible apply sv_seq; walk_at "svM"; walk_at "svM")
  | (with_reducible apply sv_ins; walk_at "ed")
  | (with_reducible apply sv_asg; walk_at "ed")
  | (with_reducible apply sv_asgX; walk_at "ex")
  | (with_reducible apply sv_retX; walk_at "ex")
  | (with_reducible apply sv_if; walk_at "et"; walk_at "svM"; walk_at "svM")
  | (with_reducible apply sv_for; walk_at "ei"; walk_at "es"; walk_at "svM")
  | walk_at "sv")
theorem AK.mono {n m : Int} {k : Ks} (h : AK n k) (hn : n ≤ m) : AK m k := by
  obtain ⟨c, x, y, e, hc, x0, x1, y0, y1⟩ := h
  exact ⟨c, x, y, e, hc, x0, by omega, y0, by omega⟩
theorem MK.mono {n m : Int} {k : Ks} (h : MK n k) (hn : n ≤ m) : MK m k := by
  obtain ⟨c, x, e, hc, x0, x1⟩ := h
  exact ⟨c, x, e, hc, x0, by omega⟩
theorem few_arrows {n : Int} {As Ms : List Ks} (h : WebK n As Ms) (hn : n ≤ 1) : As.length ≤ 3 := by
  refine List.Nodup.length_le_of_subset (l₂ := [[.inr ⟨#[97]⟩, .inl 0, .inl 0], [.inr ⟨#[98]⟩, .inl 0, .inl 0], [.inr ⟨#[99]⟩, .inl 0, .inl 0]]) h.sa.nd fun k hk => ?_
  obtain ⟨c, x, y, rfl, hc, x0, x1, y0, y1⟩ := h.ka k hk
  obtain rfl : x = 0 := by omega
  obtain rfl : y = 0 := by omega
  rcases hc with rfl | rfl | rfl <;> simp
theorem few_marks {n : Int} {As Ms : List Ks} (h : WebK n As Ms) (hn : n ≤ 1) : Ms.length ≤ 3 := by
  refine List.Nodup.length_le_of_subset (l₂ := [[.inr ⟨#[112]⟩, .inl 0], [.inr ⟨#[113]⟩, .inl 0], [.inr ⟨#[114]⟩, .inl 0]]) h.sm.nd fun k hk => ?_
  obtain ⟨c, x, rfl, hc, x0, x1⟩ := h.km k hk
  obtain rfl : x = 0 := by omega
  rcases hc with rfl | rfl | rfl <;> simp
theorem tieA (c : Nat) (x y : Int) : tieD [.inr ⟨#[c]⟩, .inl x, .inl y] = .tup [.str ⟨#[c]⟩, .int x, .int y] := rfl
theorem tieM (c : Nat) (x : Int) : tieD [.inr ⟨#[c]⟩, .inl x] = .tup [.str ⟨#[c]⟩, .int x] := rfl
theorem cmul {i j : Int} (h0 : 0 ≤ i) (h1 : i ≤ 100) (k0 : 0 ≤ j) (k1 : j ≤ 100) : CMul i j := .inl ⟨by omega, by omega⟩
section
variable {P : Program} {w : World} {K : PySem.W.Frag} {mg : Str → Option Value} {base : Heap} {C : Addr} {T : List (Addr × Str)} {cls : Str → Addr}
/-- two lists of ties, each sorted -/
theorem unl2 {n : Int} {ka kb : List Ks} {Q : D → Prop} (hn : 0 ≤ n ∧ n ≤ 81) (hka : ∀ k ∈ ka, AK n k) (hkb : ∀ k ∈ kb, MK n k) (la : ka.length ≤ 3900) (lb : kb.length ≤ 3900) (q : ∀ p : List Ks × List Ks, WebK n p.1 p.2 ∧ p.1.length ≤ ka.length ∧ p.2.length ≤ kb.length → Q (mwD n p.1 p.2)) : (unlM [.lst (ka.map tieD)]).run fun as => (unlM [.lst (kb.map tieD)]).run fun bs => Q (.tup [.int n, .lst as, .lst bs]) := by
  refine ⟨ka, ⟨rfl, ⟨3, fun k hk => (hka k hk).tie (by omega)⟩, by omega⟩, fun ua ha => ⟨kb, ⟨rfl, ⟨2, fun k hk => (hkb k hk).tie (by omega)⟩, by omega⟩, fun ub hb => ?_⟩⟩
  have h1 := ha.len
  have h2 := hb.len
  exact q (ua, ub) ⟨⟨hn.1, fun k hk => hka k (ha.of k hk), fun k hk => hkb k (hb.of k hk), ha.self, hb.self, by show ua.length ≤ 3900; omega, by show ub.length ≤ 3900; omega⟩, h1, h2⟩
abbrev s_law_beside : Stmt := topS 36
def besM : List D → M D
  | [.tup [.int n1, .lst a1, .lst m1], .tup [.int n2, .lst a2, .lst m2]] => M.bnd (M.choose fun p : List Ks × List Ks × List Ks × List Ks => a1 = p.1.map tieD ∧ m1 = p.2.1.map tieD ∧ a2 = p.2.2.1.map tieD ∧ m2 = p.2.2.2.map tieD ∧ WebK n1 p.1 p.2.1 ∧ WebK n2 p.2.2.1 p.2.2.2 ∧ n1 + n2 ≤ 81 ∧ p.1.length + p.2.2.1.length ≤ 3900 ∧ p.2.1.length + p.2.2.2.length ≤ 3900) fun _ => M.bnd (M.all fun p : List Ks × List Ks => WebK (n1 + n2) p.1 p.2) fun p => M.ret (mwD (n1 + n2) p.1 p.2)
  | _ => M.fail
theorem len_bes {ds : List D} {Q : _ → Prop} (h : (besM ds).run Q) : ds.length = 2 := by
  unfold besM at h
  split at h
  · rfl
  · exact h.elim
abbrev N_bes : List Str := ["_law_m", "_law_n", "_law_my_arrows", "_law_hue_here", "_law_my_one", "_law_my_other", "_law_my_marks", "_law_sign_here", "_law_point"]
theorem sc_bes : FnScope N_bes ["_law_m", "_law_n"] (defScope s_law_beside) := ⟨rfl, rfl, rfl, by decide +kernel, rfl, by decide +kernel, by decide +kernel⟩
theorem ok_bes {f fU : Addr} {fd dU : FuncData} (F : Fun K "_law_beside" "_law_beside" s_law_beside f fd) (oU : Df P w K mg base 1 "_law_unlike" ["_law_some"] (spL (mkS K C T cls) unlM) fU dU) : FnOk P w K mg base CX0 2 f fd ["_law_m", "_law_n"] (spD (mkS K C T cls) besM) := by
  refine F.ok sc_bes (fun vs H Q E h => ?_) (fun cdv A outer s H vs Q E hr h => ?_)
  · obtain ⟨B, G, ds, _, r, h⟩ := h
    rw [r.length]
    exact len_bes h
  · have hu5 : (A.deeper (envOfC "_law_beside" (defScope s_law_beside) s.heap.objs.size f cdv)).units + 65 < cLine := by
      have := hr.un
      omega
    have hu : (A.deeper (envOfC "_law_beside" (defScope s_law_beside) s.heap.objs.size f cdv)).units + 64 < cLine := by omega
    have hu1 : (A.deeper (envOfC "_law_beside" (defScope s_law_beside) s.heap.objs.size f cdv)).units + 1 < cLine := by omega
    refine ⟨_, (pss_cons (ps_setLc (i := 2) (own := [("_law_hue_here", 3), ("_law_my_one", 4), ("_law_my_other", 5)]) (g := gTup K 3 (gCons (gName 3) (gCons (gName 4) (gCons (gName 5) gNil)))) (tt := tYes) rfl sc_bes.nd rfl rfl (sw_true rfl rfl rfl (by decide +kernel)) (di_list (K := K) rfl (pe_ix (dx_tup (K := K) rfl) (pv 1) pe_int (fun _ _ => rfl))) (blkOk_by (N := N_bes) (sc := defScope s_law_beside) (by decide +kernel)) (fun _ _ _ _ _ => (dg_tup (K := K) (n := 3) rfl rfl (pgs_cons (pg_name (i := 3) sc_bes.nd rfl (.inl rfl)) (pgs_cons (pg_name (i := 4) sc_bes.nd rfl (.inl rfl)) (pgs_cons (pg_name (i := 5) sc_bes.nd rfl (.inl rfl)) pgs_nil))))) (fun _ _ _ _ _ => pts_nil) (fun _ _ _ _ _ => (pe_tup (pa_cons (pv 3) (pa_cons (pe_op op_add (pe_ix (dx_tup (K := K) rfl) (pv 0) pe_int (fun _ _ => rfl)) (pv 4)) (pa_cons (pe_op op_add (pe_ix (dx_tup (K := K) rfl) (pv 0) pe_int (fun _ _ => rfl)) (pv 5)) pa_nil))))))
      (pss_cons (ps_setLc (i := 6) (own := [("_law_sign_here", 7), ("_law_point", 8)]) (g := gTup K 2 (gCons (gName 7) (gCons (gName 8) gNil))) (tt := tYes) rfl sc_bes.nd rfl rfl (sw_true rfl rfl rfl (by decide +kernel)) (di_list (K := K) rfl (pe_ix (dx_tup (K := K) rfl) (pv 1) pe_int (fun _ _ => rfl))) (blkOk_by (N := N_bes) (sc := defScope s_law_beside) (by decide +kernel)) (fun _ _ _ _ _ => (dg_tup (K := K) (n := 2) rfl rfl (pgs_cons (pg_name (i := 7) sc_bes.nd rfl (.inl rfl)) (pgs_cons (pg_name (i := 8) sc_bes.nd rfl (.inl rfl)) pgs_nil)))) (fun _ _ _ _ _ => pts_nil) (fun _ _ _ _ _ => (pe_tup (pa_cons (pv 7) (pa_cons (pe_op op_add (pe_ix (dx_tup (K := K) rfl) (pv 0) pe_int (fun _ _ => rfl)) (pv 8)) pa_nil)))))
      (pss_one (ps_ret (pe_tup (pa_cons (pe_op op_add (pe_ix (dx_tup (K := K) rfl) (pv 0) pe_int (fun _ _ => rfl)) (pe_ix (dx_tup (K := K) rfl) (pv 1) pe_int (fun _ _ => rfl))) (pa_cons (pe_call oU.ok (hr.mono (by decide)) (by rfl) oU.gl oU.kp oU.bd .nil pass0 (pa_cons (pe_op op_cat (pe_ix (dx_tup (K := K) rfl) (pv 0) pe_int (fun _ _ => rfl)) (pv 2)) pa_nil)) (pa_cons (pe_call oU.ok (hr.mono (by decide)) (by rfl) oU.gl oU.kp oU.bd .nil pass0 (pa_cons (pe_op op_cat (pe_ix (dx_tup (K := K) rfl) (pv 0) pe_int (fun _ _ => rfl)) (pv 6)) pa_nil)) pa_nil)))))))), ?_⟩
    refine run_D (X := E) (S := mkS K C T cls) (N := N_bes) (by walk_at "svM") ?_ h
    intro ds Q hq
    unfold besM at hq
    split at hq
    · obtain ⟨⟨A1, M1, A2, M2⟩, ⟨rfl, rfl, rfl, rfl, w1, w2, hn, hA, hM⟩, hq⟩ := hq
      rename_i n1 n2
      dsimp only at w1 w2 hA hM
      have n10 := w1.n0
      have n20 := w2.n0
      have e : startE N_bes.length [.tup [.int n1, .lst (A1.map tieD), .lst (M1.map tieD)], .tup [.int n2, .lst (A2.map tieD), .lst (M2.map tieD)]] = [some (.f (.tup [.int n1, .lst (A1.map tieD), .lst (M1.map tieD)])), some (.f (.tup [.int n2, .lst (A2.map tieD), .lst (M2.map tieD)])), none, none, none, none, none, none, none] := rfl
      rw [e]
      simp only [run_bnd, run_ret, run_opt, run_req, run_all, run_choose, run_ite, then_nx, then_rt, then_rl, then_er, then_ct, then_bk, outD_rt, outD_rl, outD_nx, outL_rl, outX_rt, outX_rl, outX_nx, outX_er, mask_nil, mask_cons, mk0_f, mk0_o, mk0_od, mk0_ot, mk0_n, peek_nil, peek_cons, pk_f, pk_o, pk_od, pk_ot, pk_n, dOf_int, dOf_bl, dOf_str, dOf_non, opI0_int, opI_int, unI_int, asB_bl, asI_int, asL_lst, asT_tup, asW_web, eqS_int, eqS_str, ixL_lst, ixT_tup, ixQ_lst, ixQ_tup, lenD_lst, lenD_tup, listD_lst, listD_tup, catD_lst, rng1_int, rng2_int, sName_go, sTup_go, sCons_go, sNil_go, bTup_go, bCons_go, bNil_go, two_go, List.set_cons_zero, List.set_cons_succ, List.getElem?_cons_zero, List.getElem?_cons_succ, Option.join_some, atI_0, atI_1, atI_2, decide_eq_true_eq, wipeE, List.map_cons, List.map_nil, step_nx, step_ct, step_bk, step_rt, step_rl, step_er, vOf_int, vOf_str]
      refine ⟨by rw [List.length_map]; omega, ?_⟩
      refine ex_ret (M.sel_map (R := fun _ d => ∃ k, d = tieD k ∧ AK (n1 + n2) k) fun d hd => ?_) fun as has => ?_
      · obtain ⟨k, hk, rfl⟩ := List.mem_map.mp hd
        obtain ⟨c, x, y, rfl, hc, x0, x1, y0, y1⟩ := w2.ka k hk
        simp only [lcF_go, tieA, run_bnd, run_ret, run_opt, run_req, run_all, run_choose, run_ite, then_nx, then_rt, then_rl, then_er, then_ct, then_bk, outD_rt, outD_rl, outD_nx, outL_rl, outX_rt, outX_rl, outX_nx, outX_er, mask_nil, mask_cons, mk0_f, mk0_o, mk0_od, mk0_ot, mk0_n, peek_nil, peek_cons, pk_f, pk_o, pk_od, pk_ot, pk_n, dOf_int, dOf_bl, dOf_str, dOf_non, opI0_int, opI_int, unI_int, asB_bl, asI_int, asL_lst, asT_tup, asW_web, eqS_int, eqS_str, ixL_lst, ixT_tup, ixQ_lst, ixQ_tup, lenD_lst, lenD_tup, listD_lst, listD_tup, catD_lst, rng1_int, rng2_int, sName_go, sTup_go, sCons_go, sNil_go, bTup_go, bCons_go, bNil_go, two_go, List.set_cons_zero, List.set_cons_succ, List.getElem?_cons_zero, List.getElem?_cons_succ, Option.join_some, atI_0, atI_1, atI_2, decide_eq_true_eq, wipeE, List.map_cons, List.map_nil, step_nx, step_ct, step_bk, step_rt, step_rl, step_er, vOf_int, vOf_str, if_true]
        exact ⟨rfl, by show 3 ≤ 100000; decide, _, rfl, [.inr ⟨#[c]⟩, .inl (n1 + x), .inl (n1 + y)], rfl, c, _, _, rfl, hc, by omega, by omega, by omega, by omega⟩
      have hal := paired_len has
      rw [List.length_map] at hal
      obtain ⟨ka, rfl, hka⟩ := ties_all (P := AK (n1 + n2)) (Paired.right (P := fun d => ∃ k, d = tieD k ∧ AK (n1 + n2) k) (fun _ _ h => h) has)
      rw [List.length_map] at hal
      refine ⟨by rw [List.length_map]; omega, ?_⟩
      refine ex_ret (M.sel_map (R := fun _ d => ∃ k, d = tieD k ∧ MK (n1 + n2) k) fun d hd => ?_) fun bs hbs => ?_
      · obtain ⟨k, hk, rfl⟩ := List.mem_map.mp hd
        obtain ⟨c, x, rfl, hc, x0, x1⟩ := w2.km k hk
        simp only [lcF_go, tieM, run_bnd, run_ret, run_opt, run_req, run_all, run_choose, run_ite, then_nx, then_rt, then_rl, then_er, then_ct, then_bk, outD_rt, outD_rl, outD_nx, outL_rl, outX_rt, outX_rl, outX_nx, outX_er, mask_nil, mask_cons, mk0_f, mk0_o, mk0_od, mk0_ot, mk0_n, peek_nil, peek_cons, pk_f, pk_o, pk_od, pk_ot, pk_n, dOf_int, dOf_bl, dOf_str, dOf_non, opI0_int, opI_int, unI_int, asB_bl, asI_int, asL_lst, asT_tup, asW_web, eqS_int, eqS_str, ixL_lst, ixT_tup, ixQ_lst, ixQ_tup, lenD_lst, lenD_tup, listD_lst, listD_tup, catD_lst, rng1_int, rng2_int, sName_go, sTup_go, sCons_go, sNil_go, bTup_go, bCons_go, bNil_go, two_go, List.set_cons_zero, List.set_cons_succ, List.getElem?_cons_zero, List.getElem?_cons_succ, Option.join_some, atI_0, atI_1, atI_2, decide_eq_true_eq, wipeE, List.map_cons, List.map_nil, step_nx, step_ct, step_bk, step_rt, step_rl, step_er, vOf_int, vOf_str, if_true]
        exact ⟨rfl, by show 2 ≤ 100000; decide, _, rfl, [.inr ⟨#[c]⟩, .inl (n1 + x)], rfl, c, _, rfl, hc, by omega, by omega⟩
      have hbl := paired_len hbs
      rw [List.length_map] at hbl
      obtain ⟨kb, rfl, hkb⟩ := ties_all (P := MK (n1 + n2)) (Paired.right (P := fun d => ∃ k, d = tieD k ∧ MK (n1 + n2) k) (fun _ _ h => h) hbs)
      rw [List.length_map] at hbl
      refine ⟨by rw [List.length_map, List.length_map]; omega, ?_⟩
      rw [← List.map_append]
      have := unl2 (Q := fun d => outD Q (.rt d)) (n := n1 + n2) (ka := A1 ++ ka) (kb := M1 ++ kb) ⟨by omega, hn⟩ (fun k hk => (List.mem_append.mp hk).elim (fun h => AK.mono (w1.ka k h) (by omega)) (hka k)) (fun k hk => (List.mem_append.mp hk).elim (fun h => MK.mono (w1.km k h) (by omega)) (hkb k)) (by rw [List.length_append]; omega) (by rw [List.length_append]; omega) (fun p hp => hq p hp.1)
      refine ex_ret this fun as h2 => ⟨by rw [List.length_map, List.length_map]; omega, ?_⟩
      rw [← List.map_append]
      exact ex_ret h2 fun bs h3 => ⟨by show 3 ≤ 100000; decide, h3⟩
    · exact hq.elim
abbrev s_law_times : Stmt := topS 37
def timM : List D → M D
  | [.tup [.int n1, .lst a1, .lst m1], .tup [.int n2, .lst a2, .lst m2]] => M.bnd (M.choose fun p : List Ks × List Ks × List Ks × List Ks => a1 = p.1.map tieD ∧ m1 = p.2.1.map tieD ∧ a2 = p.2.2.1.map tieD ∧ m2 = p.2.2.2.map tieD ∧ WebK n1 p.1 p.2.1 ∧ WebK n2 p.2.2.1 p.2.2.2 ∧ n1 ≤ 81 ∧ n2 ≤ 1 ∧ p.1.length ≤ 20 ∧ p.2.1.length ≤ 20) fun _ => M.bnd (M.all fun p : List Ks × List Ks => WebK (n1 * n2) p.1 p.2) fun p => M.ret (mwD (n1 * n2) p.1 p.2)
  | _ => M.fail
theorem len_tim {ds : List D} {Q : _ → Prop} (h : (timM ds).run Q) : ds.length = 2 := by
  unfold timM at h
  split at h
  · rfl
  · exact h.elim
abbrev N_tim : List Str := ["_law_m", "_law_n", "_law_my_arrows", "_law_my_marks", "_law_hue_here", "_law_my_one", "_law_my_other", "_law_name", "_law_first", "_law_last", "_law_sign_here", "_law_point", "_law_spot"]
theorem sc_tim : FnScope N_tim ["_law_m", "_law_n"] (defScope s_law_times) := ⟨rfl, rfl, rfl, by decide +kernel, rfl, by decide +kernel, by decide +kernel⟩
theorem ok_tim {f fU : Addr} {fd dU : FuncData} (F : Fun K "_law_times" "_law_times" s_law_times f fd) (oU : Df P w K mg base 1 "_law_unlike" ["_law_some"] (spL (mkS K C T cls) unlM) fU dU) : FnOk P w K mg base CX0 2 f fd ["_law_m", "_law_n"] (spD (mkS K C T cls) timM) := by
  refine F.ok sc_tim (fun vs H Q E h => ?_) (fun cdv A outer s H vs Q E hr h => ?_)
  · obtain ⟨B, G, ds, _, r, h⟩ := h
    rw [r.length]
    exact len_tim h
  · have hu5 : (A.deeper (envOfC "_law_times" (defScope s_law_times) s.heap.objs.size f cdv)).units + 65 < cLine := by
      have := hr.un
      omega
    have hu : (A.deeper (envOfC "_law_times" (defScope s_law_times) s.heap.objs.size f cdv)).units + 64 < cLine := by omega
    have hu1 : (A.deeper (envOfC "_law_times" (defScope s_law_times) s.heap.objs.size f cdv)).units + 1 < cLine := by omega
    refine ⟨_, (pss_cons (ps_par (by rfl) sc_tim.nd (i := 2) (j := 3) rfl rfl (by decide) rfl rfl (pa_cons (pe_lst pa_nil) (pa_cons (pe_lst pa_nil) pa_nil)) (by rfl))
      (pss_cons (ps_for PassesOwn.never rfl (di_list (K := K) rfl (pe_ix (dx_tup (K := K) rfl) (pv 0) pe_int (fun _ _ => rfl))) (dg_tup (K := K) (n := 3) rfl rfl (pgs_cons (pg_name (i := 4) sc_tim.nd rfl (.inr rfl)) (pgs_cons (pg_name (i := 5) sc_tim.nd rfl (.inr rfl)) (pgs_cons (pg_name (i := 6) sc_tim.nd rfl (.inr rfl)) pgs_nil))))
      (pss_one (ps_set (i := 2) sc_tim.nd rfl (.inl rfl) (pe_op op_cat (pv 2) (pe_lc (own := [("_law_name", 7), ("_law_first", 8), ("_law_last", 9)]) (g := gTup K 3 (gCons (gName 7) (gCons (gName 8) (gCons (gName 9) gNil)))) (tt := _) rfl sc_tim.nd (di_list (K := K) rfl (pe_ix (dx_tup (K := K) rfl) (pv 1) pe_int (fun _ _ => rfl))) (blkOk_by (N := N_tim) (sc := defScope s_law_times) (by decide +kernel)) (fun _ _ _ _ _ => (dg_tup (K := K) (n := 3) rfl rfl (pgs_cons (pg_name (i := 7) sc_tim.nd rfl (.inl rfl)) (pgs_cons (pg_name (i := 8) sc_tim.nd rfl (.inl rfl)) (pgs_cons (pg_name (i := 9) sc_tim.nd rfl (.inl rfl)) pgs_nil))))) (fun _ _ _ _ _ => pts_one (pt_cmpR op_eq (pv 7) (pv 4) (nomark _))) (fun _ _ _ _ _ => (pe_tup (pa_cons (pv 4) (pa_cons (pe_op op_add (pe_op op_mul (pv 5) (pe_ix (dx_tup (K := K) rfl) (pv 1) pe_int (fun _ _ => rfl))) (pv 8)) (pa_cons (pe_op op_add (pe_op op_mul (pv 6) (pe_ix (dx_tup (K := K) rfl) (pv 1) pe_int (fun _ _ => rfl))) (pv 9)) pa_nil))))))))))
      (pss_cons (ps_for PassesOwn.never rfl (di_list (K := K) rfl (pe_ix (dx_tup (K := K) rfl) (pv 0) pe_int (fun _ _ => rfl))) (dg_tup (K := K) (n := 2) rfl rfl (pgs_cons (pg_name (i := 10) sc_tim.nd rfl (.inr rfl)) (pgs_cons (pg_name (i := 11) sc_tim.nd rfl (.inr rfl)) pgs_nil)))
      (pss_one (ps_set (i := 3) sc_tim.nd rfl (.inl rfl) (pe_op op_cat (pv 3) (pe_lc (own := [("_law_name", 7), ("_law_spot", 12)]) (g := gTup K 2 (gCons (gName 7) (gCons (gName 12) gNil))) (tt := _) rfl sc_tim.nd (di_list (K := K) rfl (pe_ix (dx_tup (K := K) rfl) (pv 1) pe_int (fun _ _ => rfl))) (blkOk_by (N := N_tim) (sc := defScope s_law_times) (by decide +kernel)) (fun _ _ _ _ _ => (dg_tup (K := K) (n := 2) rfl rfl (pgs_cons (pg_name (i := 7) sc_tim.nd rfl (.inl rfl)) (pgs_cons (pg_name (i := 12) sc_tim.nd rfl (.inl rfl)) pgs_nil)))) (fun _ _ _ _ _ => pts_one (pt_cmpR op_eq (pv 7) (pv 10) (nomark _))) (fun _ _ _ _ _ => (pe_tup (pa_cons (pv 10) (pa_cons (pe_op op_add (pe_op op_mul (pv 11) (pe_ix (dx_tup (K := K) rfl) (pv 1) pe_int (fun _ _ => rfl))) (pv 12)) pa_nil)))))))))
      (pss_one (ps_ret (pe_tup (pa_cons (pe_op op_mul (pe_ix (dx_tup (K := K) rfl) (pv 0) pe_int (fun _ _ => rfl)) (pe_ix (dx_tup (K := K) rfl) (pv 1) pe_int (fun _ _ => rfl))) (pa_cons (pe_call oU.ok (hr.mono (by decide)) (by rfl) oU.gl oU.kp oU.bd .nil pass0 (pa_cons (pv 2) pa_nil)) (pa_cons (pe_call oU.ok (hr.mono (by decide)) (by rfl) oU.gl oU.kp oU.bd .nil pass0 (pa_cons (pv 3) pa_nil)) pa_nil))))))))), ?_⟩
    refine run_D (X := E) (S := mkS K C T cls) (N := N_tim) (by walk_at "svM") ?_ h
    intro ds Q hq
    unfold timM at hq
    split at hq
    · obtain ⟨⟨A1, M1, A2, M2⟩, ⟨rfl, rfl, rfl, rfl, w1, w2, hn1, hn2, hA, hM⟩, hq⟩ := hq
      rename_i n1 n2
      dsimp only at w1 w2 hA hM
      have n10 := w1.n0
      have n20 := w2.n0
      have fa := few_arrows w2 hn2
      have fm := few_marks w2 hn2
      have e : startE N_tim.length [.tup [.int n1, .lst (A1.map tieD), .lst (M1.map tieD)], .tup [.int n2, .lst (A2.map tieD), .lst (M2.map tieD)]] = [some (.f (.tup [.int n1, .lst (A1.map tieD), .lst (M1.map tieD)])), some (.f (.tup [.int n2, .lst (A2.map tieD), .lst (M2.map tieD)])), none, none, none, none, none, none, none, none, none, none, none] := rfl
      rw [e]
      simp only [run_bnd, run_ret, run_opt, run_req, run_all, run_choose, run_ite, then_nx, then_rt, then_rl, then_er, then_ct, then_bk, outD_rt, outD_rl, outD_nx, outL_rl, outX_rt, outX_rl, outX_nx, outX_er, mask_nil, mask_cons, mk0_f, mk0_o, mk0_od, mk0_ot, mk0_n, peek_nil, peek_cons, pk_f, pk_o, pk_od, pk_ot, pk_n, dOf_int, dOf_bl, dOf_str, dOf_non, opI0_int, opI_int, unI_int, asB_bl, asI_int, asL_lst, asT_tup, asW_web, eqS_int, eqS_str, ixL_lst, ixT_tup, ixQ_lst, ixQ_tup, lenD_lst, lenD_tup, listD_lst, listD_tup, catD_lst, rng1_int, rng2_int, sName_go, sTup_go, sCons_go, sNil_go, bTup_go, bCons_go, bNil_go, two_go, List.set_cons_zero, List.set_cons_succ, List.getElem?_cons_zero, List.getElem?_cons_succ, Option.join_some, atI_0, atI_1, atI_2, decide_eq_true_eq, wipeE, List.map_cons, List.map_nil, step_nx, step_ct, step_bk, step_rt, step_rl, step_er, vOf_int, vOf_str]
      refine ⟨by show 0 ≤ 100000; decide, by show 0 ≤ 100000; decide, ?_⟩
      refine loop_run (fun i ρ => ∃ L y4 y5 y6 y7 y8 y9 y10 y11 y12, ρ = [some (.f (.tup [.int n1, .lst (A1.map tieD), .lst (M1.map tieD)])), some (.f (.tup [.int n2, .lst (A2.map tieD), .lst (M2.map tieD)])), some (.f (.lst (L.map tieD))), some (.f (.lst [])), y4, y5, y6, y7, y8, y9, y10, y11, y12] ∧ (∀ k ∈ L, AK (n1 * n2) k) ∧ L.length ≤ 3 * i) ⟨[], _, _, _, _, _, _, _, _, _, rfl, (fun k hk => nomatch hk), Nat.le_refl _⟩ ?_ ?_
      · rintro i h ρ ⟨L, y4, y5, y6, y7, y8, y9, y10, y11, y12, rfl, hL, ll⟩
        rw [List.length_map] at h
        obtain ⟨c, x, y, ek, hc, x0, x1, y0, y1⟩ := w1.ka _ (List.getElem_mem h)
        simp only [List.getElem_map, ek, tieA, run_bnd, run_ret, run_opt, run_req, run_all, run_choose, run_ite, then_nx, then_rt, then_rl, then_er, then_ct, then_bk, outD_rt, outD_rl, outD_nx, outL_rl, outX_rt, outX_rl, outX_nx, outX_er, mask_nil, mask_cons, mk0_f, mk0_o, mk0_od, mk0_ot, mk0_n, peek_nil, peek_cons, pk_f, pk_o, pk_od, pk_ot, pk_n, dOf_int, dOf_bl, dOf_str, dOf_non, opI0_int, opI_int, unI_int, asB_bl, asI_int, asL_lst, asT_tup, asW_web, eqS_int, eqS_str, ixL_lst, ixT_tup, ixQ_lst, ixQ_tup, lenD_lst, lenD_tup, listD_lst, listD_tup, catD_lst, rng1_int, rng2_int, sName_go, sTup_go, sCons_go, sNil_go, bTup_go, bCons_go, bNil_go, two_go, List.set_cons_zero, List.set_cons_succ, List.getElem?_cons_zero, List.getElem?_cons_succ, Option.join_some, atI_0, atI_1, atI_2, decide_eq_true_eq, wipeE, List.map_cons, List.map_nil, step_nx, step_ct, step_bk, step_rt, step_rl, step_er, vOf_int, vOf_str]
        refine ⟨rfl, by rw [List.length_map]; omega, ?_⟩
        refine ex_ret (M.sel_any (P := fun d => ∃ k, d = tieD k ∧ AK (n1 * n2) k) fun d hd => ?_) fun bs hbs => ?_
        · obtain ⟨k, hk, rfl⟩ := List.mem_map.mp hd
          obtain ⟨c2, x2, y2, rfl, hc2, u0, u1, v0, v1⟩ := w2.ka k hk
          simp only [lcF_go, tieA, run_bnd, run_ret, run_opt, run_req, run_all, run_choose, run_ite, then_nx, then_rt, then_rl, then_er, then_ct, then_bk, outD_rt, outD_rl, outD_nx, outL_rl, outX_rt, outX_rl, outX_nx, outX_er, mask_nil, mask_cons, mk0_f, mk0_o, mk0_od, mk0_ot, mk0_n, peek_nil, peek_cons, pk_f, pk_o, pk_od, pk_ot, pk_n, dOf_int, dOf_bl, dOf_str, dOf_non, opI0_int, opI_int, unI_int, asB_bl, asI_int, asL_lst, asT_tup, asW_web, eqS_int, eqS_str, ixL_lst, ixT_tup, ixQ_lst, ixQ_tup, lenD_lst, lenD_tup, listD_lst, listD_tup, catD_lst, rng1_int, rng2_int, sName_go, sTup_go, sCons_go, sNil_go, bTup_go, bCons_go, bNil_go, two_go, List.set_cons_zero, List.set_cons_succ, List.getElem?_cons_zero, List.getElem?_cons_succ, Option.join_some, atI_0, atI_1, atI_2, decide_eq_true_eq, wipeE, List.map_cons, List.map_nil, step_nx, step_ct, step_bk, step_rt, step_rl, step_er, vOf_int, vOf_str]
          refine ⟨rfl, ?_⟩
          split
          · refine ⟨.inl ⟨by omega, by omega⟩, .inl ⟨by omega, by omega⟩, by show 3 ≤ 100000; decide, fun b hb => ?_⟩
            injection hb with hb
            have e2 : n2 = 1 := by omega
            have f1 : x * n2 + x2 = x := by rw [e2]; omega
            have f2 : y * n2 + y2 = y := by rw [e2]; omega
            have f3 : n1 * n2 = n1 := by rw [e2]; omega
            refine ⟨[.inr ⟨#[c]⟩, .inl (x * n2 + x2), .inl (y * n2 + y2)], hb.symm, c, _, _, rfl, hc, by omega, by omega, by omega, by omega⟩
          · exact fun b hb => nomatch hb
        obtain ⟨hbl, hb⟩ := hbs
        rw [List.length_map] at hbl
        obtain ⟨kb, rfl, hkb⟩ := ties_all (P := AK (n1 * n2)) hb
        rw [List.length_map] at hbl
        refine ⟨by rw [List.length_map, List.length_map]; omega, L ++ kb, _, _, _, _, _, _, _, _, _, by rw [List.map_append], fun k hk => (List.mem_append.mp hk).elim (hL k) (hkb k), by rw [List.length_append]; omega⟩
      · rintro ρ ⟨L, y4, y5, y6, y7, y8, y9, y10, y11, y12, rfl, hL, ll⟩
        rw [List.length_map] at ll
        simp only [run_bnd, run_ret, run_opt, run_req, run_all, run_choose, run_ite, then_nx, then_rt, then_rl, then_er, then_ct, then_bk, outD_rt, outD_rl, outD_nx, outL_rl, outX_rt, outX_rl, outX_nx, outX_er, mask_nil, mask_cons, mk0_f, mk0_o, mk0_od, mk0_ot, mk0_n, peek_nil, peek_cons, pk_f, pk_o, pk_od, pk_ot, pk_n, dOf_int, dOf_bl, dOf_str, dOf_non, opI0_int, opI_int, unI_int, asB_bl, asI_int, asL_lst, asT_tup, asW_web, eqS_int, eqS_str, ixL_lst, ixT_tup, ixQ_lst, ixQ_tup, lenD_lst, lenD_tup, listD_lst, listD_tup, catD_lst, rng1_int, rng2_int, sName_go, sTup_go, sCons_go, sNil_go, bTup_go, bCons_go, bNil_go, two_go, List.set_cons_zero, List.set_cons_succ, List.getElem?_cons_zero, List.getElem?_cons_succ, Option.join_some, atI_0, atI_1, atI_2, decide_eq_true_eq, wipeE, List.map_cons, List.map_nil, step_nx, step_ct, step_bk, step_rt, step_rl, step_er, vOf_int, vOf_str]
        refine loop_run (fun i ρ => ∃ N y4 y5 y6 y7 y8 y9 y10 y11 y12, ρ = [some (.f (.tup [.int n1, .lst (A1.map tieD), .lst (M1.map tieD)])), some (.f (.tup [.int n2, .lst (A2.map tieD), .lst (M2.map tieD)])), some (.f (.lst (L.map tieD))), some (.f (.lst (N.map tieD))), y4, y5, y6, y7, y8, y9, y10, y11, y12] ∧ (∀ k ∈ N, MK (n1 * n2) k) ∧ N.length ≤ 3 * i) ⟨[], _, _, _, _, _, _, _, _, _, rfl, (fun k hk => nomatch hk), Nat.le_refl _⟩ ?_ ?_
        · rintro i h ρ ⟨N, y4, y5, y6, y7, y8, y9, y10, y11, y12, rfl, hN, ln⟩
          rw [List.length_map] at h
          obtain ⟨c, x, ek, hc, x0, x1⟩ := w1.km _ (List.getElem_mem h)
          simp only [List.getElem_map, ek, tieM, run_bnd, run_ret, run_opt, run_req, run_all, run_choose, run_ite, then_nx, then_rt, then_rl, then_er, then_ct, then_bk, outD_rt, outD_rl, outD_nx, outL_rl, outX_rt, outX_rl, outX_nx, outX_er, mask_nil, mask_cons, mk0_f, mk0_o, mk0_od, mk0_ot, mk0_n, peek_nil, peek_cons, pk_f, pk_o, pk_od, pk_ot, pk_n, dOf_int, dOf_bl, dOf_str, dOf_non, opI0_int, opI_int, unI_int, asB_bl, asI_int, asL_lst, asT_tup, asW_web, eqS_int, eqS_str, ixL_lst, ixT_tup, ixQ_lst, ixQ_tup, lenD_lst, lenD_tup, listD_lst, listD_tup, catD_lst, rng1_int, rng2_int, sName_go, sTup_go, sCons_go, sNil_go, bTup_go, bCons_go, bNil_go, two_go, List.set_cons_zero, List.set_cons_succ, List.getElem?_cons_zero, List.getElem?_cons_succ, Option.join_some, atI_0, atI_1, atI_2, decide_eq_true_eq, wipeE, List.map_cons, List.map_nil, step_nx, step_ct, step_bk, step_rt, step_rl, step_er, vOf_int, vOf_str]
          refine ⟨rfl, by rw [List.length_map]; omega, ?_⟩
          refine ex_ret (M.sel_any (P := fun d => ∃ k, d = tieD k ∧ MK (n1 * n2) k) fun d hd => ?_) fun bs hbs => ?_
          · obtain ⟨k, hk, rfl⟩ := List.mem_map.mp hd
            obtain ⟨c2, x2, rfl, hc2, u0, u1⟩ := w2.km k hk
            simp only [lcF_go, tieM, run_bnd, run_ret, run_opt, run_req, run_all, run_choose, run_ite, then_nx, then_rt, then_rl, then_er, then_ct, then_bk, outD_rt, outD_rl, outD_nx, outL_rl, outX_rt, outX_rl, outX_nx, outX_er, mask_nil, mask_cons, mk0_f, mk0_o, mk0_od, mk0_ot, mk0_n, peek_nil, peek_cons, pk_f, pk_o, pk_od, pk_ot, pk_n, dOf_int, dOf_bl, dOf_str, dOf_non, opI0_int, opI_int, unI_int, asB_bl, asI_int, asL_lst, asT_tup, asW_web, eqS_int, eqS_str, ixL_lst, ixT_tup, ixQ_lst, ixQ_tup, lenD_lst, lenD_tup, listD_lst, listD_tup, catD_lst, rng1_int, rng2_int, sName_go, sTup_go, sCons_go, sNil_go, bTup_go, bCons_go, bNil_go, two_go, List.set_cons_zero, List.set_cons_succ, List.getElem?_cons_zero, List.getElem?_cons_succ, Option.join_some, atI_0, atI_1, atI_2, decide_eq_true_eq, wipeE, List.map_cons, List.map_nil, step_nx, step_ct, step_bk, step_rt, step_rl, step_er, vOf_int, vOf_str]
            refine ⟨rfl, ?_⟩
            split
            · refine ⟨.inl ⟨by omega, by omega⟩, by show 2 ≤ 100000; decide, fun b hb => ?_⟩
              injection hb with hb
              have e2 : n2 = 1 := by omega
              have f1 : x * n2 + x2 = x := by rw [e2]; omega
              have f3 : n1 * n2 = n1 := by rw [e2]; omega
              refine ⟨[.inr ⟨#[c]⟩, .inl (x * n2 + x2)], hb.symm, c, _, rfl, hc, by omega, by omega⟩
            · exact fun b hb => nomatch hb
          obtain ⟨hbl, hb⟩ := hbs
          rw [List.length_map] at hbl
          obtain ⟨kb, rfl, hkb⟩ := ties_all (P := MK (n1 * n2)) hb
          rw [List.length_map] at hbl
          refine ⟨by rw [List.length_map, List.length_map]; omega, N ++ kb, _, _, _, _, _, _, _, _, _, by rw [List.map_append], fun k hk => (List.mem_append.mp hk).elim (hN k) (hkb k), by rw [List.length_append]; omega⟩
        · rintro ρ ⟨N, y4, y5, y6, y7, y8, y9, y10, y11, y12, rfl, hN, ln⟩
          rw [List.length_map] at ln
          simp only [run_bnd, run_ret, run_opt, run_req, run_all, run_choose, run_ite, then_nx, then_rt, then_rl, then_er, then_ct, then_bk, outD_rt, outD_rl, outD_nx, outL_rl, outX_rt, outX_rl, outX_nx, outX_er, mask_nil, mask_cons, mk0_f, mk0_o, mk0_od, mk0_ot, mk0_n, peek_nil, peek_cons, pk_f, pk_o, pk_od, pk_ot, pk_n, dOf_int, dOf_bl, dOf_str, dOf_non, opI0_int, opI_int, unI_int, asB_bl, asI_int, asL_lst, asT_tup, asW_web, eqS_int, eqS_str, ixL_lst, ixT_tup, ixQ_lst, ixQ_tup, lenD_lst, lenD_tup, listD_lst, listD_tup, catD_lst, rng1_int, rng2_int, sName_go, sTup_go, sCons_go, sNil_go, bTup_go, bCons_go, bNil_go, two_go, List.set_cons_zero, List.set_cons_succ, List.getElem?_cons_zero, List.getElem?_cons_succ, Option.join_some, atI_0, atI_1, atI_2, decide_eq_true_eq, wipeE, List.map_cons, List.map_nil, step_nx, step_ct, step_bk, step_rt, step_rl, step_er, vOf_int, vOf_str]
          have hm : 0 ≤ n1 * n2 ∧ n1 * n2 ≤ 81 := by
            have : n2 = 0 ∨ n2 = 1 := by omega
            rcases this with z | z <;> rw [z] <;> omega
          refine ⟨.inl ⟨by omega, by omega⟩, ?_⟩
          have := unl2 (Q := fun d => outD Q (.rt d)) (n := n1 * n2) (ka := L) (kb := N) hm hL hN (by omega) (by omega) (fun p hp => hq p hp.1)
          exact ex_ret this fun as h2 => ex_ret h2 fun bs h3 => ⟨by show 3 ≤ 100000; decide, h3⟩
    · exact hq.elim
end
end Dv
namespace Dv
open PySem PySem.Spec PyProof.Rows L2 Sg
variable {S : Base} {B : Bo S} {X : XK}
/-! ### dicts: looked into -/
def dgM : D → D → M D
  | .dk es, y => M.bnd (M.opt (keyOf y)) fun k => M.opt (valD es k)
  | _, _ => M.fail
theorem dg_run {d y : D} {Q : D → Prop} (h : (dgM d y).run Q) : ∃ es k z, d = .dk es ∧ keyOf y = some k ∧ valD es k = some z ∧ Q z := by
  cases d <;> first
    | exact h.elim
    | (obtain ⟨k, hk, h⟩ := M.run_opt h
       obtain ⟨z, hz, h⟩ := M.run_opt h
       exact ⟨_, k, z, rfl, hk, hz, h⟩)
theorem ed_dget {td ty : TE} {md my : Env → M D} (hd : EvD S td md) (hy : EvD S ty my) : EvD S (tDGet td ty) (fun ρ => M.bnd (md ρ) fun d => M.bnd (my ρ) fun y => dgM d y) := fun B σ H G ρ Q k er q =>
  hd B σ H G ρ _ k er ((md ρ).mono (fun d hd v H1 G1 k1 c1 r1 => hy B σ H1 G1 ρ _ k1 (er.mono c1.ext) ((my ρ).mono (fun y hy v2 H2 G2 k2 c2 r2 => by
    obtain ⟨es, kk, z, rfl, hk, hz, hq⟩ := dg_run hy
    cases r1 with
    | dk ha he hr =>
      rcases val_of (k := kk) he (hr.mono c2.ext) with ⟨e1, e2⟩ | ⟨v, d, e1, e2, e3⟩
      · rw [hz] at e2; cases e2
      · rw [hz] at e2
        cases e2
        refine ⟨_, v, rfl, ?_, (show Rs1 S B H G Q z from hq) v H2 G2 k2 (c1.trans c2) e3⟩
        rw [rp_keyOf hk r2, ← e1]
        exact DGet.k (k2.sub _ _ (c2.ext _ _ ha))) hd)) q)
def dinM (n : Bool) : D → D → M D
  | y, .dk es => M.bnd (M.opt (keyOf y)) fun k => M.ret (.bl (if n then !(valD es k).isSome else (valD es k).isSome))
  | _, _ => M.fail
theorem din_run {n : Bool} {d y : D} {Q : D → Prop} (h : (dinM n y d).run Q) : ∃ es k, d = .dk es ∧ keyOf y = some k ∧ Q (.bl (if n then !(valD es k).isSome else (valD es k).isSome)) := by
  cases d <;> first
    | exact h.elim
    | (obtain ⟨k, hk, h⟩ := M.run_opt h
       exact ⟨_, k, rfl, hk, h⟩)
theorem val_some {G : Hp} {k : Key} {kvs : List (Key × V)} {es : List (Key × D)} (h : kvs.map (·.1) = es.map (·.1)) (r : RpA S B G (kvs.map (·.2)) (es.map (·.2))) : (valV kvs k).isSome = (valD es k).isSome := by
  rcases val_of (k := k) h r with ⟨e1, e2⟩ | ⟨v, d, e1, e2, _⟩ <;> rw [e1, e2] <;> rfl
theorem ed_din {td ty : TE} {md my : Env → M D} (hy : EvD S ty my) (hd : EvD S td md) : EvD S (tDIn ty td) (fun ρ => M.bnd (my ρ) fun y => M.bnd (md ρ) fun d => dinM false y d) := fun B σ H G ρ Q k er q =>
  hy B σ H G ρ _ k er ((my ρ).mono (fun y hy v H1 G1 k1 c1 r1 => hd B σ H1 G1 ρ _ k1 (er.mono c1.ext) ((md ρ).mono (fun d hd v2 H2 G2 k2 c2 r2 => by
    obtain ⟨es, kk, rfl, hk, hq⟩ := din_run hd
    cases r2 with
    | dk ha he hr =>
      refine ⟨_, _, rfl, by rw [rp_keyOf hk r1]; exact DGet.k (k2.sub _ _ ha), ?_⟩
      rw [val_some he hr]
      exact (show Rs1 S B H G Q _ from hq) _ H2 G2 k2 (c1.trans c2) (.bl _)) hy)) q)
theorem ed_dnin {td ty : TE} {md my : Env → M D} (hy : EvD S ty my) (hd : EvD S td md) : EvD S (tDNotIn ty td) (fun ρ => M.bnd (my ρ) fun y => M.bnd (md ρ) fun d => dinM true y d) := fun B σ H G ρ Q k er q =>
  hy B σ H G ρ _ k er ((my ρ).mono (fun y hy v H1 G1 k1 c1 r1 => hd B σ H1 G1 ρ _ k1 (er.mono c1.ext) ((md ρ).mono (fun d hd v2 H2 G2 k2 c2 r2 => by
    obtain ⟨es, kk, rfl, hk, hq⟩ := din_run hd
    cases r2 with
    | dk ha he hr =>
      refine ⟨_, _, rfl, by rw [rp_keyOf hk r1]; exact DGet.k (k2.sub _ _ ha), ?_⟩
      rw [val_some he hr]
      exact (show Rs1 S B H G Q _ from hq) _ H2 G2 k2 (c1.trans c2) (.bl _)) hy)) q)
def lenK : List D → M D
  | [.dk es] => M.ret (.int es.length)
  | _ => M.fail
theorem r_lenK : RCD S (fun xs H Q => ∃ a kvs, xs = [V.ref a] ∧ H a = some (.dK kvs) ∧ Q (.int kvs.length) H) lenK := fun B H G vs ds Q k r h => by
  unfold lenK at h
  split at h
  · rename_i es
    cases r with
    | cons a b =>
      cases b
      cases a with
      | dk ha he hr =>
        rename_i kvs
        refine ⟨_, _, rfl, k.sub _ _ ha, ?_⟩
        have e := congrArg List.length he
        rw [List.length_map, List.length_map] at e
        rw [e]
        exact Rs1.now k h (.int _)
  · exact h.elim
/-! ### a new dict that may be changed -/
def Rs3 (S : Base) (B : Bo S) (H G : Hp) (Q : VK) (es : List (Key × D)) : Prop := ∀ p kvs H' G', FrA H p → Ok B H' G' → Ch B H G H' G' → H' p = some (.dK kvs) → G' p = none → kvs.map (·.1) = es.map (·.1) → RpA S B G' (kvs.map (·.2)) (es.map (·.2)) → Q (.ref p) H'
def EvK (S : Base) (te : TE) (m : Env → M (List (Key × D))) : Prop := ∀ B σ H G ρ Q, Ok B H G → Er S B G σ ρ → (m ρ).run (Rs3 S B H G Q) → te σ H Q
theorem ek_new : EvK S tDNewK (fun _ => M.ret []) := fun B σ H G ρ Q k er q p hp => by
  obtain ⟨k2, c2⟩ := k.lay hp (.dK [])
  exact (show Rs3 S B H G Q [] from q) p [] _ _ (FrA.of hp) k2 c2 upd_same (k.sub.free hp) rfl .nil
theorem sv_asgK {te : TE} {m : Env → M (List (Key × D))} {i : Nat} (h : EvK S te m) : SvD S X (tAsg te (gName i)) (fun ρ => M.bnd (m (mask ρ)) fun es => M.ret (.nx (ρ.set i (some (.od es))))) := fun B H0 G0 σ H ρ E ⟨G, A, r⟩ q =>
  h B σ H G (mask ρ) _ r.ok r.mask ((m (mask ρ)).mono (fun es hd p kvs H1 G1 n k1 c1 h1 g1 e1 r1 => by
    have r' := r.step k1 c1
    exact (show ∀ σ H, Rs S B H0 G0 σ H (ρ.set i (some (.od es))) → E.nx σ H from hd) _ _ ⟨G1, _, r'.own (s := .od es) rfl (r.ch.fr _ n) h1 g1 ⟨e1, r1⟩ (fun j t e w z => by
      obtain ⟨_, _, _, o, ho, hw⟩ := r.ow j t e w
      exact n.ne ho (plainO.nt hw.pl) z) i⟩) q)
def putD (es : List (Key × D)) (k : Key) (d : D) : List (Key × D) :=
  if (es.any fun kv => decide (kv.1 = k)) = true then es.map (fun kv => if kv.1 = k then (kv.1, d) else kv) else es ++ [(k, d)]
theorem put_of {G : Hp} {k : Key} {v : V} {d : D} (rv : Rp S B G v d) {kvs : List (Key × V)} {es : List (Key × D)} (h : kvs.map (·.1) = es.map (·.1)) (r : RpA S B G (kvs.map (·.2)) (es.map (·.2))) : (putK kvs k v).map (·.1) = (putD es k d).map (·.1) ∧ RpA S B G ((putK kvs k v).map (·.2)) ((putD es k d).map (·.2)) := by
  have ha : (kvs.any fun kv => decide (kv.1 = k)) = (es.any fun kv => decide (kv.1 = k)) := by
    have e1 : ∀ l : List (Key × V), (l.any fun kv => decide (kv.1 = k)) = ((l.map (·.1)).any fun x => decide (x = k)) := fun l => by rw [List.any_map]; rfl
    have e2 : ∀ l : List (Key × D), (l.any fun kv => decide (kv.1 = k)) = ((l.map (·.1)).any fun x => decide (x = k)) := fun l => by rw [List.any_map]; rfl
    rw [e1, e2, h]
  unfold putK putD
  rw [ha]
  split
  · rename_i hh
    clear ha hh
    induction kvs generalizing es with
    | nil =>
      cases es with
      | nil => exact ⟨rfl, .nil⟩
      | cons _ _ => cases h
    | cons p kvs ih =>
      cases es with
      | nil => cases h
      | cons q es =>
        simp only [List.map_cons, List.cons.injEq] at h
        cases r with
        | cons r1 r2 =>
          obtain ⟨i1, i2⟩ := ih h.2 r2
          simp only [List.map_cons, h.1]
          by_cases e : q.1 = k
          · simp only [if_pos e]
            exact ⟨by rw [i1], .cons rv i2⟩
          · simp only [if_neg e]
            exact ⟨by rw [i1, h.1], .cons r1 i2⟩
  · simp only [List.map_append, List.map_cons, List.map_nil]
    exact ⟨by rw [h], r.append (.cons rv .nil)⟩
theorem putD_len (es : List (Key × D)) (k : Key) (d : D) : (putD es k d).length ≤ es.length + 1 := by
  unfold putD
  split
  · rw [List.length_map]; omega
  · rw [List.length_append]; exact Nat.le_refl _
/-- {k: v for ..} -/
def dcM (f : D → M (Option (Key × D))) : List D → List (Key × D) → M (List (Key × D))
  | [], acc => M.ret acc
  | d :: ds, acc => M.bnd (f d) fun o => match o with
    | some (k, v) => dcM f ds (putD acc k v)
    | none => dcM f ds acc
def dcF (b : D → Env → M Env) (mt : Env → M Bool) (mk mv : Env → M D) (ρ : Env) (d : D) : M (Option (Key × D)) :=
  M.bnd (b d ρ) fun ρ' => M.bnd (mt ρ') fun t => if t = true then M.bnd (mk ρ') fun y => M.bnd (mv ρ') fun z => M.bnd (M.opt (keyOf y)) fun k => M.ret (some (k, z)) else M.ret none
theorem ek_dc {wi : TI} {g : TG} {tt : TT} {tk tv : TE} {vs js : List Nat} {mi : Env → M (List D)} {b : D → Env → M Env} {mt : Env → M Bool} {mk mv : Env → M D} (hj : ∀ j ∈ js, j ∈ vs) (hi : EiD S wi mi) (hg : EgD S g b js) (ht : EvT S tt mt) (hk : EvD S tk mk) (hv : EvD S tv mv) :
    EvK S (tDc wi g tt tk tv vs) (fun ρ => M.bnd (mi ρ) fun ds => M.bnd (M.req (ds.length ≤ 100000)) fun _ => dcM (dcF b mt mk mv (wipeE ρ vs)) ds []) := fun B σ H G ρ Q k er q =>
  hi B σ H G ρ _ k er ((mi ρ).mono (fun ds hd J H1 G1 k1 c1 wk Dl nD => by
    have nDH : FrA H Dl := c1.fr _ (FrA.of nD)
    have nb : ∀ q, B.bq ≠ some (Dl, q) := fun q e => k.ne e nDH rfl
    have aw := k.away nDH
    refine ⟨fun i m L => m = ds.length - i ∧ i ≤ ds.length ∧ ∃ GL acc done, Ok B L GL ∧ Ch B H1 G1 L GL ∧ L Dl = some (.dK acc) ∧ GL Dl = none ∧ acc.map (·.1) = done.map (·.1) ∧ RpA S B GL (acc.map (·.2)) (done.map (·.2)) ∧ done.length ≤ i ∧ (dcM (dcF b mt mk mv (wipeE ρ vs)) (ds.drop i) done).run (Rs3 S B H G Q), ⟨_, rfl, Nat.zero_le _, ?_⟩, ?_⟩
    · obtain ⟨k2, c2⟩ := k1.lay nD (.dK [])
      exact ⟨G1, [], [], k2, c2, upd_same, k1.sub.free nD, rfl, .nil, Nat.le_refl _, hd.2⟩
    · rintro i m L ⟨rfl, hi', GL, acc, done, kL, cL, hD, gD, eD, rD, hdl, hr⟩
      rcases Nat.lt_or_ge i ds.length with hlt | hge
      · refine .inr ⟨wk.go i L GL kL cL.ext hlt, fun L' => (i + 1) ≤ ds.length ∧ ∃ GL acc done, Ok B L' GL ∧ Ch B H1 G1 L' GL ∧ L' Dl = some (.dK acc) ∧ GL Dl = none ∧ acc.map (·.1) = done.map (·.1) ∧ RpA S B GL (acc.map (·.2)) (done.map (·.2)) ∧ done.length ≤ i + 1 ∧ (dcM (dcF b mt mk mv (wipeE ρ vs)) (ds.drop (i + 1)) done).run (Rs3 S B H G Q), fun L' hL => ⟨_, by omega, rfl, hL.1, hL.2⟩, fun x L' y => ?_⟩
        obtain ⟨GY, kY, cY, rY⟩ := wk.yl i L GL x L' kL cL.ext hlt y
        obtain ⟨hDY, gDY⟩ := cY.mine hD gD rfl nb
        have eDr : ds.drop i = ds[i] :: ds.drop (i + 1) := List.drop_eq_getElem_cons hlt
        rw [eDr] at hr
        have cHY := cL.trans cY
        refine hg B (wipe σ vs) L' GY (wipeE ρ vs) x ds[i] _ kY ((er.mono (c1.trans cHY).ext).wipe vs) rY (M.mono _ (fun ρ' hρ σ' er' ag => ?_) hr)
        refine ⟨by rw [ag.wipe hj, wipe_idem], ?_⟩
        refine ht B σ' L' GY ρ' _ kY er' (M.mono _ (fun t htt L3 G3 k3 c3 => ?_) hρ)
        obtain ⟨hD3, gD3⟩ := c3.mine hDY gDY rfl nb
        cases t with
        | false => exact ⟨hlt, G3, acc, done, k3, cHY.trans c3, hD3, gD3, eD, rD.mono (cY.trans c3).ext, by omega, htt⟩
        | true =>
          refine hk B σ' L3 G3 ρ' _ k3 (er'.mono c3.ext) (M.mono _ (fun y' hy v4 L4 G4 k4 c4 r4 => ?_) htt)
          obtain ⟨hD4, gD4⟩ := c4.mine hD3 gD3 rfl nb
          refine hv B σ' L4 G4 ρ' _ k4 (er'.mono (c3.trans c4).ext) (M.mono _ (fun z' hz v5 L5 G5 k5 c5 r5 => ?_) hy)
          obtain ⟨hD5, gD5⟩ := c5.mine hD4 gD4 rfl nb
          obtain ⟨kk, hkk, hz⟩ := M.run_opt hz
          have ra := rD.mono (((cY.trans c3).trans c4).trans c5).ext
          obtain ⟨pe, pr⟩ := put_of (k := kk) r5 eD ra
          refine ⟨acc, kk, rp_keyOf hkk r4, hD5, ?_, hlt, G5, putK acc kk v5, putD done kk z', k5.upd gD5 (fun u e => by rw [hD5] at e; cases e; rfl) aw, (((cHY.trans c3).trans c4).trans c5).upd (FrA.of nD), upd_same, gD5, pe, pr, ?_, hz⟩
          · have e := congrArg List.length eD
            rw [List.length_map, List.length_map] at e
            rw [e]
            have := hd.1
            exact Nat.lt_of_lt_of_le (show done.length < 100000 by omega) (by decide)
          · have := putD_len done kk z'
            omega
      · obtain rfl : i = ds.length := by omega
        refine .inl ⟨wk.st L GL kL cL.ext, ?_⟩
        rw [List.drop_length] at hr
        exact (show Rs3 S B H G Q done from hr) Dl acc L GL nDH kL (c1.trans cL) hD gD eD rD) q)
def ownK (ρ : Ev) (i : Nat) : M (List (Key × D)) := match ρ[i]? with
  | some (some (.od es)) => M.ret es
  | _ => M.fail
theorem ownK_run {ρ : Ev} {i : Nat} {Q : List (Key × D) → Prop} (h : (ownK ρ i).run Q) : ∃ es, ρ[i]? = some (some (.od es)) ∧ Q es := by
  unfold ownK at h
  split at h
  · exact ⟨_, by assumption, h⟩
  · exact h.elim
/-- x[k] = v, x a dict of one's own -/
theorem sv_dput {i : Nat} {ty tv : TE} {my mv : Env → M D} (hy : EvD S ty my) (hv : EvD S tv mv) : SvD S X (sDPut (tVar i) ty tv) (fun ρ => M.bnd (mv (peek ρ)) fun v => M.bnd (M.req (scD v = true)) fun _ => M.bnd (ownK ρ i) fun es => M.bnd (M.req (es.length < 100000)) fun _ => M.bnd (my (peek ρ)) fun y => M.bnd (M.opt (keyOf y)) fun k => M.ret (.nx (ρ.set i (some (.od (putD es k v)))))) := fun B H0 G0 σ H ρ E ⟨G, A, r⟩ q => by
  obtain ⟨Gp, kp, er, c0, back⟩ := r.peek
  refine hv B σ H Gp (peek ρ) _ kp er ((mv (peek ρ)).mono (fun d hd v H1 G1 k1 c1 r1 => ?_) q)
  obtain ⟨G', r', s1, _⟩ := back H1 G1 k1 c1
  obtain ⟨hsc, hd⟩ := hd
  obtain ⟨es, e, hl, hd⟩ := ownK_run hd
  obtain ⟨Gp2, kp2, er2, c02, back2⟩ := r'.peek
  refine ⟨_, (r'.ow i _ e rfl).1, ?_⟩
  refine hy B σ H1 Gp2 (peek ρ) _ kp2 er2 ((my (peek ρ)).mono (fun y hh v2 H2 G2 k2 c2 r2 => ?_) hd)
  obtain ⟨kk, hk, hh⟩ := M.run_opt hh
  obtain ⟨G'', r'', s2, _⟩ := back2 H2 G2 k2 c2
  obtain ⟨_, h2, h3, o, h4, h5⟩ := r''.ow i _ e rfl
  cases o <;> first
    | exact h5.elim
    | (rename_i kvs
       have el := congrArg List.length h5.1
       rw [List.length_map, List.length_map] at el
       refine ⟨_, _, rfl, by rw [rp_keyOf hk r2]; exact DPut.k h4 (by rw [el]; exact Nat.lt_of_lt_of_le hl (by decide)), ?_⟩
       exact (show ∀ σ H, Rs S B H0 G0 σ H _ → E.nx σ H from hh) _ _ ⟨G'', A, r''.put (s' := .od (putD es kk d)) e rfl rfl (put_of (k := kk) (rp_sc hsc r1) h5.1 h5.2)⟩)
/-! ### name = {k: v for ..}, on one line -/
theorem sw_D {kx vx : Expr} {gs : List Comprehension} {scope : Scope} {pos py : Pos} {y : Str} {l : Nat} {env : PySem.Env} (h1 : env.scope.kind = .function) (h2 : env.scope.names.lookup y = some .local) (h3 : (py.line == pos.line) = true) (h4 : (scope.names.any fun (n, k) => n == y && (k == .local || k == .cell)) = false) : swapsWith (.DictComp kx vx gs scope pos) (some (.Name y py)) l env = pure true := by
  have e1 : env.blockKind = .function := by unfold Env.blockKind; rw [h1]; rfl
  have e2 : env.kindOf y = some .local := h2
  unfold swapsWith
  simp only [e1, e2, h4, Expr.pos, h3]
  rfl
theorem ps_setDc {X : Cx} {i : Nat} {y : Str} {py : Pos} {kx vx tg iter : Expr} {ifs : List Expr} {scope : Scope} {own : List (Str × Nat)} {pos spos : Pos} {wi : TI} {g : TG} {tt : TT} {tk tv : TE} (hc : X.calm = true) (hN : X.N.Nodup) (hy : X.N[i]? = some y) (hyl : X.env.scope.names.lookup y = some .local)
    (hw : swapsWith (.DictComp kx vx [⟨tg, iter, ifs, 0⟩] scope pos) (some (.Name y py)) spos.line X.env = pure true) (h1 : PI X tg iter wi) (h2 : BlkOk X.N X.env.scope scope own)
    (h3 : ∀ (s : Shared) (H : Hp) (C : Addr) (cl : List (Str × Addr)) (fp : List Addr), PG (X.blk s H scope (compEnvC scope cl C X.env) fp) tg g) (h4 : ∀ (s : Shared) (H : Hp) (C : Addr) (cl : List (Str × Addr)) (fp : List Addr), PTs (X.blk s H scope (compEnvC scope cl C X.env) fp) ifs tt)
    (h5 : ∀ (s : Shared) (H : Hp) (C : Addr) (cl : List (Str × Addr)) (fp : List Addr), PE (X.blk s H scope (compEnvC scope cl C X.env) fp) kx tk) (h6 : ∀ (s : Shared) (H : Hp) (C : Addr) (cl : List (Str × Addr)) (fp : List Addr), PE (X.blk s H scope (compEnvC scope cl C X.env) fp) vx tv) (h7 : ∀ x, foldedSetIterable iter X.env x = pure x := by intro _; rfl) :
    PS X (.Assign [.Name y py] (.DictComp kx vx [⟨tg, iter, ifs, 0⟩] scope pos) spos) (tAsg (tDc wi g tt tk tv (own.map (·.2))) (gName i)) := ⟨fun pins s σ H E I q => by
  rw [exec_Assign_Name_used _ _ _ _ hw]
  have q : tDc wi g tt tk tv (own.map (·.2)) σ H (fun x H1 => gName i x σ H1 E.nx) := q
  refine wpAny_bind (wpAny_standAt (wpAny_bind (show wpAny _ X.A (do let _ ← comprehension (.DictComp kx vx [⟨tg, iter, ifs, 0⟩] scope pos) scope X.env (firstIterPos [⟨tg, iter, ifs, 0⟩] pos) newDict false (eval iter X.env) (some (assign (.Name y py) X.env))) _ _ s from wpAny_bind (thn (dc_core (Qf := fun _ z => SP X pins E .next z) hc hN I h1 h2 h3 h4 h5 h6 h7 q fun L C z m J I2 q2 hn f => ?_) fun _ z hz => wpAny_pure (wpAny_pure hz)))))
  refine (show wpAny _ _ (assign (.Name y py) X.env (.ref L)) _ _ _ from wpAny_assign_Name (store_ok2 (v := V.ref L) I2 hN hy (.inl hyl) rfl (fun s2 I3 ⟨a, sb, ha⟩ => ?_) (.inr hyl)))
  obtain ⟨u0, u1, u2, u3, u4, u5⟩ := f
  refine ⟨m, hn.sameBut sb (ha.elim (fun z => by rw [z]; exact u1) fun z e => u4 y a z e.symm), fun z3 sb3 => ⟨_, J, I3.turned (t' := s2.toks) (fun b o hb e => (sb3.2 b hb).trans e) u0 u1 u3 u4 u5, q2⟩⟩⟩
end Dv
namespace Dv
open PySem PySem.Spec PyProof.Rows L2 Sg
variable {S : Base} {B : Bo S} {X : XK}
/-! ### the greatest, the least of a list; a number of a truth; a tuple of a list -/
def max1M : List D → M D
  | [.lst es] => M.bnd (M.choose fun js : List Int => es = js.map D.int ∧ 0 < js.length) fun js => M.bnd (M.all fun m => m ∈ js ∧ ∀ y, y ∈ js → y ≤ m) fun m => M.ret (.int m)
  | _ => M.fail
def min1M : List D → M D
  | [.lst es] => M.bnd (M.choose fun js : List Int => es = js.map D.int ∧ 0 < js.length) fun js => M.bnd (M.all fun m => m ∈ js ∧ ∀ y, y ∈ js → m ≤ y) fun m => M.ret (.int m)
  | _ => M.fail
theorem r_max1 : RCD S (rMax S.K) max1M := fun B H G vs ds Q k r h => by
  unfold max1M at h
  split at h
  · obtain ⟨js, ⟨rfl, hl⟩, h⟩ := h
    cases r with
    | cons a b =>
      cases b
      cases a with
      | lst ha hr =>
        rw [ints_of hr] at ha
        exact ⟨_, js, rfl, SqL.of (k.sub _ _ ha), hl, fun m h1 h2 => Rs1.now k (show Rs1 S B H G Q (.int m) from h m ⟨h1, h2⟩) (.int m)⟩
  · exact h.elim
theorem r_min1 : RCD S (rMin S.K) min1M := fun B H G vs ds Q k r h => by
  unfold min1M at h
  split at h
  · obtain ⟨js, ⟨rfl, hl⟩, h⟩ := h
    cases r with
    | cons a b =>
      cases b
      cases a with
      | lst ha hr =>
        rw [ints_of hr] at ha
        exact ⟨_, js, rfl, SqL.of (k.sub _ _ ha), hl, fun m h1 h2 => Rs1.now k (show Rs1 S B H G Q (.int m) from h m ⟨h1, h2⟩) (.int m)⟩
  · exact h.elim
def intM : List D → M D
  | [.int i] => M.ret (.int i)
  | [.bl b] => M.ret (.int (if b then 1 else 0))
  | _ => M.fail
theorem r_int : RCD S (fun xs H Q => (∃ i, xs = [V.int i] ∧ Q (.int i) H) ∨ ∃ k, xs = [V.bl k] ∧ Q (.int (if k then 1 else 0)) H) intM := fun B H G vs ds Q k r h => by
  unfold intM at h
  split at h
  · cases r with
    | cons a b => cases b; cases a; exact .inl ⟨_, rfl, Rs1.now k h (.int _)⟩
  · cases r with
    | cons a b => cases b; cases a; exact .inr ⟨_, rfl, Rs1.now k h (.int _)⟩
  · exact h.elim
def tupM : List D → M D
  | [.lst l] => M.ret (.tup l)
  | [.tup l] => M.ret (.tup l)
  | _ => M.fail
theorem r_tup : RCD S (fun xs H Q => ∃ p ys, xs = [V.ref p] ∧ ((SqL S.K H p ys ∧ ∀ l, H l = none → Q (.ref l) (upd H l (.tup ys))) ∨ (SqT S.K H p ys ∧ Q (.ref p) H))) tupM := fun B H G vs ds Q k r h => by
  unfold tupM at h
  split at h
  · cases r with
    | cons a b =>
      cases b
      cases a with
      | lst ha hr =>
        refine ⟨_, _, rfl, .inl ⟨SqL.of (k.sub _ _ ha), fun p hp => ?_⟩⟩
        obtain ⟨k2, c2⟩ := k.put hp (.tup _) (fun _ z => nomatch z)
        exact (show Rs1 S B H G Q (.tup _) from h) _ _ _ k2 c2 (.tup (SqT.of upd_same) (hr.mono c2.ext))
  · cases r with
    | cons a b =>
      cases b
      cases a with
      | tup ha hr => exact ⟨_, _, rfl, .inr ⟨sub_tup k.sub ha, Rs1.now k h (.tup ha hr)⟩⟩
  · exact h.elim
theorem max1_go (es : List D) : max1M [.lst es] = M.bnd (M.choose fun js : List Int => es = js.map D.int ∧ 0 < js.length) fun js => M.bnd (M.all fun m => m ∈ js ∧ ∀ y, y ∈ js → y ≤ m) fun m => M.ret (.int m) := rfl
theorem min1_go (es : List D) : min1M [.lst es] = M.bnd (M.choose fun js : List Int => es = js.map D.int ∧ 0 < js.length) fun js => M.bnd (M.all fun m => m ∈ js ∧ ∀ y, y ∈ js → m ≤ y) fun m => M.ret (.int m) := rfl
theorem int_i (i : Int) : intM [.int i] = M.ret (.int i) := rfl
theorem int_b (b : Bool) : intM [.bl b] = M.ret (.int (if b then 1 else 0)) := rfl
theorem tup_l (l : List D) : tupM [.lst l] = M.ret (.tup l) := rfl
theorem tup_t (l : List D) : tupM [.tup l] = M.ret (.tup l) := rfl
section
variable {Y : Cx} {K : PySem.W.Frag}
theorem dv_max1 (h : Y.K = K) (hc : Y.calm = true) : CallR Y (.builtin "max") (rMax K) := by subst h; exact cr_max hc
theorem dv_min1 (h : Y.K = K) (hc : Y.calm = true) : CallR Y (.builtin "min") (rMin K) := by subst h; exact cr_min hc
end
/-! ### a walk over numbered things -/
def enD : Nat → List D → List D
  | _, [] => []
  | i, d :: l => .tup [.int i, d] :: enD (i + 1) l
theorem enD_len : ∀ (l : List D) (i : Nat), (enD i l).length = l.length
  | [], _ => rfl
  | _ :: l, i => congrArg (· + 1) (enD_len l (i + 1))
theorem enD_get : ∀ (l : List D) (i j : Nat), (enD i l)[j]? = (l[j]?).map fun d => .tup [.int (i + j : Nat), d]
  | [], i, j => by simp [enD]
  | d :: l, i, 0 => rfl
  | d :: l, i, j + 1 => by
    show (enD (i + 1) l)[j]? = _
    rw [enD_get l (i + 1) j, List.getElem?_cons_succ, show i + 1 + j = i + (j + 1) by omega]
theorem wk_en {a : Addr} {xs : List V} {G : Hp} {ds : List D} (ha : G a = some (.lst xs)) (r : RpA S B G xs ds) : WkD S B (Ite S.K a) G (enD 0 ds) := by
  have hl := r.length
  refine ⟨fun i L GL k s h => ?_, fun L GL k s => ?_, fun i L GL x L' k s h y => ?_⟩
  · rw [enD_len] at h
    exact ⟨xs, _, SqL.of (k.sub _ _ (s _ _ ha)), List.getElem?_eq_getElem (by omega)⟩
  · rw [enD_len]
    exact ⟨xs, SqL.of (k.sub _ _ (s _ _ ha)), by omega⟩
  · obtain ⟨T, v, rfl, hT, rfl, hv⟩ := y
    rw [enD_len] at h
    have hx := hv xs (SqL.of (k.sub _ _ (s _ _ ha)))
    obtain ⟨d, h1, h2⟩ := r.getV hx
    obtain ⟨k2, c2⟩ := k.put hT (.tup [.int (i : Nat), v]) (fun _ z => nomatch z)
    refine ⟨_, k2, c2, ?_⟩
    have e : (enD 0 ds)[i]'(by rw [enD_len]; exact h) = .tup [.int (i : Nat), d] := by
      have e1 := enD_get ds 0 i
      rw [h1, List.getElem?_eq_getElem (by rw [enD_len]; exact h)] at e1
      rw [Option.some.inj e1, Nat.zero_add]
    rw [e]
    exact .tup (SqT.of upd_same) (.cons (.int _) (.cons ((h2.mono s).mono c2.ext) .nil))
def enM : List D → M (List D)
  | [.lst l] => M.ret (enD 0 l)
  | _ => M.fail
theorem enM_go (l : List D) : enM [.lst l] = M.ret (enD 0 l) := rfl
theorem ei_en {ta : TA} {m : Env → M (List D)} (h : EvA S ta m) : EiD S (iEnA S.K ta) (fun ρ => M.bnd (m ρ) enM) := fun B σ H G ρ R k er q =>
  h B σ H G ρ _ k er ((m ρ).mono (fun ds hd vs H1 G1 k1 c1 r1 => by
    unfold enM at hd
    split at hd
    · cases r1 with
      | cons a b =>
        cases b
        cases a with
        | lst ha hr => exact ⟨_, _, rfl, .inl ⟨SqL.of (k1.sub _ _ ha), hd _ H1 G1 k1 c1 (wk_en ha hr)⟩⟩
    · exact hd.elim) q)
theorem pi_enK {X : Cx} {K : PySem.W.Frag} (hK : X.K = K) {e : Expr} {ta : TA} {p pos tpos : Pos} {elts : List Expr} {kk : Nat} (hg : Gl X "enumerate") (hm : X.mg "enumerate" = none) (ha : PA X [e] ta) (hs : starEach [e] X.env = [(false, eval e X.env)] := by rfl) :
    PI X (.Tuple elts kk tpos) (.Call (.Name "enumerate" p) [e] [] pos) (iEnA K ta) := by subst hK; exact pi_enA hg hm ha hs
end Dv
/-! != where a class has its own == alone -/
namespace Nq
open PySem PySem.W PySem.Calls PyProof.Rows Builtin L2
section
variable {prog : Program} {w : World} {A : Around} {E : Value → Shared → Prop} {s : Shared} {K : Frag} {x y C L f : Addr} {h₀ : Heap} {m : Str → Option Value} {ox oy : Obj} {od od' : Option Obj} {name : Str} {id : String}
theorem ifB {M : Model} {args : List Value} {R : Option Value → Shared → Prop} (Xh : K.In s.heap) (It : InstAt s.heap x ox C od) (e : findIn K (.ref C) name = some (some (.builtin id))) (hb : ∀ u, bindSpecial (.builtin id) u = pure (.builtin id, [u]))
    (go : wpAny M A (call (.builtin id) (.ref x :: args)) (fun u => R (some u)) E s) : wpAny M A (callSpecialIfBound? (.ref x) name args) R E s := by
  have last : wpAny M A (call (.builtin id) ([.ref x] ++ args) >>= fun u => pure (some u)) R E s := wpAny_bind (wpAny_mono go (fun u s2 g => wpAny_pure g) fun _ _ g => g)
  simp only [callSpecialIfBound?, bindSpecialIfBound?]
  refine wpAny_holding (wpAny_bind (wpAny_bind (wpAny_bind (It.type.here ((looks_findIn Xh e).here (wpAny_bind (wpAny_askSetting (wpAny_ite ?_))))))))
  split
  · exact wpAny_bind (by rw [hb]; exact wpAny_pure (wpAny_pure last))
  · exact wpAny_tryCatch (wpAny_bind (by rw [hb]; exact wpAny_pure (wpAny_pure last)))
theorem ne_in (hu : A.units < cLine) (Xh : K.In s.heap) (It : InstAt s.heap x ox C od) (e : findIn K (.ref C) "__eq__" = some (some (.ref f))) (hf : isFn K (.ref f) = true) {R : Fin → Shared → Prop}
    (go : wpAny (model prog w) A (call (.ref f) [.ref x, .ref y]) (fun u s2 => ∃ b, u = .bool b ∧ R (.done (.ret (.bool (!b)))) s2) E s) : wpAny (model prog w) A (Builtin.«object.__ne__» ⟨[.ref x, .ref y], []⟩) R E s := by
  unfold Builtin.«object.__ne__»
  repeat (first
    | with_reducible refine wpAny_cRoomFor hu ?_
    | refine wpAny_bind (m := callSpecialIfBound? (.ref x) (Str.ofString "__eq__") [.ref y]) (ifBound_K Xh It e hf (wpAny_mono go (fun u s2 g => by
        obtain ⟨b, rfl, g⟩ := g
        repeat (first | exact g | exact wpAny_pure g | exact wpAny_truthy_bool g | (refine wpAny_bind (m := truthy (.bool _)) (wpAny_truthy_bool ?_)) | wp_step)) fun _ _ g => g))
    | wp_step)
theorem ne_try (hu : A.units + 1 < cLine) (Xh : K.In s.heap) (It : InstAt s.heap x ox C od) (e1 : findIn K (.ref C) "__ne__" = some (some (.builtin "object.__ne__"))) (e2 : findIn K (.ref C) "__eq__" = some (some (.ref f))) (hf : isFn K (.ref f) = true) (ho : subIn K (.ref C) (.type "object") = some true) {R : Option Value → Shared → Prop}
    (go : wpAny (model prog w) A.in1 (call (.ref f) [.ref x, .ref y]) (fun u s2 => ∃ b, u = .bool b ∧ R (some (.bool (!b))) s2) E s) : wpAny (model prog w) A (tryCompare (.ref x) "__ne__" (.ref y)) R E s := by
  simp only [tryCompare]
  have ci : Looks (model prog w) s.heap (isInstance (.ref x) (.type "object")) true := It.type.andThen (looks_subIn Xh ho)
  refine wpAny_bind (ifB Xh It e1 F.cmp_object.ne.bind (wpAny_call (codeAny_call_builtin F.cmp_object.ne.plain F.cmpEntry_ne (check_slot F.cmpKind_ne F.cmpSplit_ne ci (F.cmpArgs_ne _ _) (ne_in (A := A.in1) hu Xh It e2 hf (wpAny_mono go (fun u s2 g => ?_) fun _ _ g => g))))))
  obtain ⟨b, rfl, g⟩ := g
  first | exact ⟨b, rfl, wpAny_pure g⟩ | exact ⟨b, rfl, wpAny_pure (wpAny_pure g)⟩ | exact ⟨b, rfl, g⟩
theorem ne_K (hu : A.units + 1 < cLine) (Xh : K.In s.heap) (It : InstAt s.heap x ox C od) (Iy : InstAt s.heap y oy C od') (e1 : findIn K (.ref C) "__ne__" = some (some (.builtin "object.__ne__"))) (e2 : findIn K (.ref C) "__eq__" = some (some (.ref f))) (hf : isFn K (.ref f) = true) (ho : subIn K (.ref C) (.type "object") = some true) {R : Value → Shared → Prop}
    (go : wpAny (model prog w) A.in1 (call (.ref f) [.ref x, .ref y]) (fun u s2 => ∃ b, u = .bool b ∧ R (.bool (!b)) s2) E s) : wpAny (model prog w) A (richCompare .NotEq (.ref x) (.ref y)) R E s := by
  unfold richCompare
  simp only [oneThing_ref]
  refine wpAny_holding (wpAny_bind (wpAny_cRoomFor (Nat.lt_of_succ_lt hu) ?_))
  rw [cmpInfo_NotEq]
  dsimp only
  refine wpAny_bind (It.type.here (wpAny_bind (Iy.type.here ?_)))
  rw [show (Value.ref C != Value.ref C) = false by simp]
  simp only [Bool.false_eq_true, if_false]
  refine wpAny_bind (wpAny_pure ?_)
  simp only [Bool.false_eq_true, if_false]
  refine wpAny_bind (ne_try hu Xh It e1 e2 hf ho (wpAny_mono go (fun u s2 g => ?_) fun _ _ g => g))
  obtain ⟨b, rfl, g⟩ := g
  first | exact ⟨b, rfl, wpAny_pure g⟩ | exact ⟨b, rfl, wpAny_pure (wpAny_pure g)⟩
end
/-- x != y of instances whose own == tells True -/
def rNeI (C : Addr) (R : Addr → Addr → Hp → Prop) : R2 := fun x y H Q => DIns C R x y H ∧ ∀ H', Ext H H' → Q (.bl false) H'
section
variable {X : Cx} {n : Nat}
theorem op_neI {CX : CXT} {K : Frag} {C f : Addr} {fd : FuncData} {ps : List Str} {R : Addr → Addr → Hp → Prop} {E : XK} (hK : X.K = K) (F : FnOk X.prog X.w K X.mg X.base CX n f fd ps (spEq R)) (e1 : findIn K (.ref C) "__ne__" = some (some (.builtin "object.__ne__"))) (e2 : findIn K (.ref C) "__eq__" = some (some (.ref f))) (hf : isFn K (.ref f) = true) (ho : subIn K (.ref C) (.type "object") = some true)
    (hb : Binds K fd ps []) (hx : Passes CX X E) (hr : Room (n + 1) X.A) : OpR X (compareOp .NotEq) (rNeI C R) := by
  subst hK
  intro pins s σ H vx vy v u Q I rx ry hq
  obtain ⟨⟨a, b, dx, dy, fs, gs, rfl, rfl, ha, hb', hR⟩, q⟩ := hq
  cases rx
  cases ry
  obtain ⟨_, J, _⟩ := ins_get I.hok ha
  obtain ⟨_, J', _⟩ := ins_get I.hok hb'
  obtain ⟨_, J, _⟩ := J.look
  obtain ⟨_, J', _⟩ := J'.look
  have sb : L2.Sub X (n + 1) X.A := ⟨hr, rfl⟩
  have sb1 := sb.in1
  show wpAny (model X.prog X.w) X.A (richCompare .NotEq (.ref a) (.ref b)) (EP X pins σ Q) X.xe s
  refine ne_K ?_ I.kIn J J' e1 e2 hf ho ?_
  · have := hr.units
    omega
  have sp : spEq R [.ref a, .ref b] H (fun v H' => v = .bl true ∧ Ext H H') E := ⟨a, b, rfl, hR, fun H' z => ⟨rfl, z⟩⟩
  have ev : Env0 X.prog X.w X.K X.mg X.base X.A.in1 X.stack s H := by
    have z := I.env0
    exact ⟨by rw [sb1.fr]; exact z.frames, z.mod, z.bs, z.bsz, z.funs, z.frf, z.hok, z.bare⟩
  have two : Vals [V.ref a, V.ref b] [Value.ref a, Value.ref b] := .cons rfl (.cons rfl .nil)
  have bd := hb s [.ref a, .ref b] I.kIn (by simpa using F.len _ _ _ _ sp)
  refine wpAny_call (codeAny_mono (F.run X.A.in1 X.stack s H ⟨[.ref a, .ref b], []⟩ [.ref a, .ref b] [.ref a, .ref b] _ E sb1.room ev (by simpa using bd) two sp) fun r s' g => ?_)
  cases r with
  | error z => exact hx pins σ H s z s' I g
  | ok fl =>
    cases fl with
    | ret z =>
      obtain ⟨zz, H', I', rz, ez, ex⟩ := I.after g
      subst ez
      cases rz
      exact ⟨true, rfl, .bl false, H', I', rfl, q H' ex⟩
    | next => exact False.elim g
    | brk => exact False.elim g
    | cont => exact False.elim g
end
end Nq
namespace Dv
open PySem PySem.Spec PyProof.Rows L2 RZ Sg Tm Wb
local macro_rules | `(tactic| walk_at "r2") => `(tactic| first | with_reducible exact r_I0 | with_reducible exact r_I | with_reducible exact r_eq | with_reducible exact r_ne | with_reducible exact r_isN | with_reducible exact r_notN | with_reducible exact r_ixL | with_reducible exact r_ixT | with_reducible exact r_ixQ | with_reducible exact r_eqD | with_reducible exact r_neD | with_reducible exact r_inD | with_reducible exact r_notInD | with_reducible exact r_isB | with_reducible exact r_notB)
local macro_rules | `(tactic| walk_at "r2l") => `(tactic| first | with_reducible exact r_cat)
local macro_rules | `(tactic| walk_at "rc") => `(tactic| first | with_reducible exact r_len | with_reducible exact r_all)
local macro_rules | `(tactic| walk_at "rcl") => `(tactic| first | with_reducible exact r_list)
local macro_rules | `(tactic| walk_at "eo") => `(tactic| first | with_reducible exact eo_none | (with_reducible apply eo_some; walk_at "ed"))
local macro_rules | `(tactic| walk_at "ea") => `(tactic| first | with_reducible exact ea_nil | (with_reducible apply ea_star; walk_at "ed"; walk_at "ea") | (with_reducible apply ea_cons; walk_at "ed"; walk_at "ea"))
local macro_rules | `(tactic| walk_at "et") => `(tactic| first
  | with_reducible exact et_yes
  | (with_reducible apply et_test; walk_at "ed") | (with_reducible apply et_B; walk_at "ed") | (with_reducible apply et_not; walk_at "et")
  | (with_reducible apply et_and; walk_at "et"; walk_at "et") | (with_reducible apply et_or; walk_at "et"; walk_at "et"))
local macro_rules | `(tactic| walk_at "eg") => `(tactic| first | with_reducible exact eg_name | (with_reducible apply eg_tup; walk_at "egs"))
local macro_rules | `(tactic| walk_at "egs") => `(tactic| first | with_reducible exact eg_nil | (with_reducible apply eg_cons; walk_at "eg"; walk_at "egs"))
local macro_rules | `(tactic| walk_at "es") => `(tactic| first | with_reducible exact es_name | (with_reducible apply es_tup; walk_at "ess"))
local macro_rules | `(tactic| walk_at "ess") => `(tactic| first | with_reducible exact es_nil | (with_reducible apply es_cons; walk_at "es"; walk_at "ess"))
local macro_rules | `(tactic| walk_at "ei") => `(tactic| first | (with_reducible apply ei_list; walk_at "ed") | (with_reducible apply ei_tup; walk_at "ed") | (with_reducible apply ei_rng1; walk_at "ea") | (with_reducible apply ei_rng2; walk_at "ea") | (with_reducible apply ei_str; walk_at "ed"))
local macro_rules | `(tactic| walk_at "el") => `(tactic| first
  | (with_reducible apply el_lst; walk_at "ea")
  | (focus (with_reducible apply el_lc; rotate_left; walk_at "ei"; walk_at "eg"; walk_at "et"; walk_at "ed"; decide))
  | (with_reducible apply el_op; walk_at "r2l"; walk_at "ed"; walk_at "ed")
  | (with_reducible apply el_cb; walk_at "rcl"; walk_at "ea")
  | (with_reducible apply el_sl; walk_at "ed"; walk_at "eo"; walk_at "eo")
  | (with_reducible apply el_call; walk_at "ea")
  | walk_at "el+"
  | (with_reducible apply el_meth; decide; walk_at "ed"; walk_at "ea"))
local macro_rules | `(tactic| walk_at "ed") => `(tactic| first
  | with_reducible exact ed_var | with_reducible exact ed_c
  | (with_reducible apply ed_op; walk_at "r2"; walk_at "ed"; walk_at "ed")
  | (with_reducible apply ed_call; walk_at "ea")
  | (with_reducible apply ed_callX; walk_at "ea")
  | (with_reducible apply ed_tup; walk_at "ea")
  | (with_reducible apply ed_if; walk_at "et"; walk_at "ed"; walk_at "ed")
  | (with_reducible apply ed_cb; walk_at "rc"; walk_at "ea")
  | (with_reducible apply ed_un r_U; walk_at "ed")
  | (with_reducible apply ed_chain; walk_at "r2"; walk_at "r2"; walk_at "ed"; walk_at "ed"; walk_at "ed")
  | (with_reducible apply ed_andV; walk_at "ed"; walk_at "ed") | (with_reducible apply ed_orV; walk_at "ed"; walk_at "ed")
  | (with_reducible apply ed_meth; decide; walk_at "ed"; walk_at "ea")
  | walk_at "ed+"
  | (with_reducible apply EvL.d; walk_at "el"))
local macro_rules | `(tactic| walk_at "svF") => `(tactic| first
  | (with_reducible apply sv_seq; walk_at "svF"; walk_at "svF")
  | (with_reducible apply sv_asg; walk_at "ed")
  | (with_reducible apply sv_if; walk_at "et"; walk_at "svF"; walk_at "svF")
  | (with_reducible apply sv_for; walk_at "ei"; walk_at "es"; walk_at "svF")
  | walk_at "sv")
local macro_rules | `(tactic| walk_at "sv") => `(tactic| first
  | with_reducible exact sv_next | with_reducible exact sv_break | with_reducible exact sv_cont | with_reducible exact sv_never | with_reducible exact sv_retN
  | (with_reducible apply sv_seq; walk_at "sv"; walk_at "sv")
  | (with_reducible apply sv_asgL; walk_at "el")
  | (with_reducible apply sv_asg; walk_at "ed")
  | (with_reducible apply sv_if; walk_at "et"; walk_at "sv"; walk_at "sv")
  | (with_reducible apply sv_for; walk_at "ei"; walk_at "es"; walk_at "sv")
  | (with_reducible apply sv_par; walk_at "ea")
  | (with_reducible apply sv_app; walk_at "ed")
  | (with_reducible apply sv_ret; walk_at "ed")
  | (with_reducible apply sv_asgT; walk_at "ed"; walk_at "es")
  | (with_reducible apply sv_drop; walk_at "ed"))
local macro_rules | `(tactic| walk_at "rc") => `(tactic| first | with_reducible exact r_len | with_reducible exact r_all | with_reducible exact r_max | with_reducible exact r_min)
local macro_rules | `(tactic| walk_at "rcl") => `(tactic| first | with_reducible exact r_list | with_reducible exact r_sort)
local macro_rules | `(tactic| walk_at "el+") => `(tactic| (with_reducible apply el_listRg; walk_at "ed"))
local macro_rules | `(tactic| walk_at "edm") => `(tactic| first | (with_reducible apply ed_index; walk_at "ed"; walk_at "ed") | (with_reducible apply ed_dget2; walk_at "ed"; walk_at "ed"; walk_at "ed") | with_reducible exact ed_disp2 | (with_reducible apply ed_chain; walk_at "r2"; walk_at "r2"; walk_at "ed"; walk_at "ed"; walk_at "ed"))
local macro_rules | `(tactic| walk_at "ed+") => `(tactic| walk_at "edm")
local macro_rules | `(tactic| walk_at "ex") => `(tactic| first | (with_reducible apply ex_callI; walk_at "ea") | (with_reducible apply ex_call; walk_at "ea") | (with_reducible apply ex_opL; walk_at "r2"; walk_at "ex"; walk_at "ed"))
local macro_rules | `(tactic| walk_at "svM") => `(tactic| first
  | (with_reducible apply sv_seq; walk_at "svM"; walk_at "svM")
  | (with_reducible apply sv_ins; walk_at "ed")
  | (with_reducible apply sv_asg; walk_at "ed")
  | (with_reducible apply sv_asgX; walk_at "ex")
  | (with_reducible apply sv_retX; walk_at "ex")
  | (with_reducible apply sv_if; walk_at "et"; walk_at "svM"; walk_at "svM")
  | (with_reducible apply sv_for; walk_at "ei"; walk_at "es"; walk_at "svM")
  | walk_at "sv")
local macro_rules | `(tactic| walk_at "rc") => `(tactic| first | with_reducible exact r_len | with_reducible exact r_lenK | with_reducible exact r_all | with_reducible exact r_max | with_reducible exact r_min | with_reducible exact r_max1 | with_reducible exact r_min1 | with_reducible exact r_int | with_reducible exact r_tup)
local macro_rules | `(tactic| walk_at "ei") => `(tactic| first | (with_reducible apply ei_list; walk_at "ed") | (with_reducible apply ei_tup; walk_at "ed") | (with_reducible apply ei_rng1; walk_at "ea") | (with_reducible apply ei_rng2; walk_at "ea") | (with_reducible apply ei_str; walk_at "ed") | (with_reducible apply ei_en; walk_at "ea"))
local macro_rules | `(tactic| walk_at "edk") => `(tactic| first | (with_reducible apply ed_mk2; walk_at "ea"; walk_at "ea") | (with_reducible apply ed_dget; walk_at "ed"; walk_at "ed") | (with_reducible apply ed_din; walk_at "ed"; walk_at "ed") | (with_reducible apply ed_dnin; walk_at "ed"; walk_at "ed") | walk_at "edm")
local macro_rules | `(tactic| walk_at "ed+") => `(tactic| walk_at "edk")
local macro_rules | `(tactic| walk_at "ek") => `(tactic| first | with_reducible exact ek_new | (focus (with_reducible apply ek_dc; rotate_left; walk_at "ei"; walk_at "eg"; walk_at "et"; walk_at "ed"; walk_at "ed"; decide)))
local macro_rules | `(tactic| walk_at "svN") => `(tactic| first
  | (with_reducible apply sv_seq; walk_at "svN"; walk_at "svN")
  | (with_reducible apply sv_ins; walk_at "ed")
  | (with_reducible apply sv_asgK; walk_at "ek")
  | (with_reducible apply sv_asg; walk_at "ed")
  | (with_reducible apply sv_asgX; walk_at "ex")
  | (with_reducible apply sv_dropX; walk_at "ex")
  | (with_reducible apply sv_retX; walk_at "ex")
  | (with_reducible apply sv_dput; walk_at "ed"; walk_at "ed")
  | (with_reducible apply sv_raise rfl; decide; walk_at "ed")
  | (with_reducible apply sv_if; walk_at "et"; walk_at "svN"; walk_at "svN")
  | (with_reducible apply sv_for; walk_at "ei"; walk_at "es"; walk_at "svN")
  | walk_at "sv")
/-! ### ties led to other points -/
def mvK (f : Int → Int) (k : Ks) : Ks := k.map fun x => match x with | .inl i => .inl (f i) | .inr c => .inr c
def inK (p : Int → Bool) (k : Ks) : Bool := k.all fun x => match x with | .inl i => p i | .inr _ => true
def nuK (g : (Int → Bool) × (Int → Int)) (l : List Ks) : List Ks := (l.filter (inK g.1)).map (mvK g.2)
def revK : Ks → Ks
  | [c, x, y] => [c, y, x]
  | k => k
theorem mvA (f : Int → Int) (c : Str) (x y : Int) : mvK f [.inr c, .inl x, .inl y] = [.inr c, .inl (f x), .inl (f y)] := rfl
theorem mvM (f : Int → Int) (c : Str) (x : Int) : mvK f [.inr c, .inl x] = [.inr c, .inl (f x)] := rfl
theorem inA (p : Int → Bool) (c : Str) (x y : Int) : inK p [.inr c, .inl x, .inl y] = (p x && p y) := by simp [inK]
theorem inM (p : Int → Bool) (c : Str) (x : Int) : inK p [.inr c, .inl x] = p x := by simp [inK]
theorem nu_A {n m : Int} {l : List Ks} {g : (Int → Bool) × (Int → Int)} (h : ∀ k ∈ l, AK n k) (hg : ∀ i, 0 ≤ i → i < n → g.1 i = true → 0 ≤ g.2 i ∧ g.2 i < m) : ∀ k ∈ nuK g l, AK m k := fun k hk => by
  obtain ⟨k', hk', rfl⟩ := List.mem_map.mp hk
  obtain ⟨h1, h2⟩ := List.mem_filter.mp hk'
  obtain ⟨c, x, y, rfl, hc, x0, x1, y0, y1⟩ := h k' h1
  rw [inA, Bool.and_eq_true] at h2
  obtain ⟨a, b⟩ := hg x x0 x1 h2.1
  obtain ⟨a', b'⟩ := hg y y0 y1 h2.2
  exact ⟨c, _, _, rfl, hc, a, b, a', b'⟩
theorem nu_M {n m : Int} {l : List Ks} {g : (Int → Bool) × (Int → Int)} (h : ∀ k ∈ l, MK n k) (hg : ∀ i, 0 ≤ i → i < n → g.1 i = true → 0 ≤ g.2 i ∧ g.2 i < m) : ∀ k ∈ nuK g l, MK m k := fun k hk => by
  obtain ⟨k', hk', rfl⟩ := List.mem_map.mp hk
  obtain ⟨h1, h2⟩ := List.mem_filter.mp hk'
  obtain ⟨c, x, rfl, hc, x0, x1⟩ := h k' h1
  rw [inM] at h2
  obtain ⟨a, b⟩ := hg x x0 x1 h2
  exact ⟨c, _, rfl, hc, a, b⟩
theorem nu_len (g : (Int → Bool) × (Int → Int)) (l : List Ks) : (nuK g l).length ≤ l.length := by
  unfold nuK
  rw [List.length_map]
  exact List.length_filter_le ..
theorem good_nu {n m : Int} {As Ms : List Ks} {g : (Int → Bool) × (Int → Int)} (w : WebK n As Ms) (h0 : 0 ≤ m) (h1 : m ≤ 81) (hg : ∀ i, 0 ≤ i → i < n → g.1 i = true → 0 ≤ g.2 i ∧ g.2 i < m) : GoodW m (nuK g As) (nuK g Ms) := by
  have a := nu_len g As
  have b := nu_len g Ms
  have c := w.la
  have d := w.lm
  exact ⟨h0, h1, nu_A w.ka hg, nu_M w.km hg, by omega, by omega⟩
theorem web_of {m : Int} {as ms : List Ks} {u : List Ks × List Ks} (g : GoodW m as ms) (la : as.length ≤ 3900) (lm : ms.length ≤ 3900) (h : SrtK as u.1 ∧ SrtK ms u.2) : WebK m u.1 u.2 := by
  have p1 := h.1.len
  have p2 := h.2.len
  exact ⟨g.1, fun k hk => g.2.2.1 k (h.1.of k hk), fun k hk => g.2.2.2.1 k (h.2.of k hk), h.1.self, h.2.self, by omega, by omega⟩
theorem web_nu {n m : Int} {As Ms : List Ks} {g : (Int → Bool) × (Int → Int)} {u : List Ks × List Ks} (w : WebK n As Ms) (gw : GoodW m (nuK g As) (nuK g Ms)) (h : SrtK (nuK g As) u.1 ∧ SrtK (nuK g Ms) u.2) : WebK m u.1 u.2 := by
  have a := nu_len g As
  have b := nu_len g Ms
  have c := w.la
  have d := w.lm
  exact web_of gw (by omega) (by omega) h
/-- two ways to sort the same ties -/
theorem two_srt {m : Int} {as ms : List Ks} {u v : List Ks × List Ks} (g : GoodW m as ms) (h : SrtK as u.1 ∧ SrtK ms u.2) (h' : SrtK as v.1 ∧ SrtK ms v.2) : u = v := by
  have e1 := srtK_eq h.1 h'.1 fun k hk => (g.2.2.1 k hk).tie (show m ≤ 128 by have := g.2.1; omega)
  have e2 := srtK_eq h.2 h'.2 fun k hk => (g.2.2.2.1 k hk).tie (show m ≤ 128 by have := g.2.1; omega)
  cases u; cases v
  simp only at e1 e2
  rw [e1, e2]
theorem nu_congr {P : Ks → Prop} {l : List Ks} {g g' : (Int → Bool) × (Int → Int)} {n : Int} (h : ∀ k ∈ l, AK n k ∨ MK n k) (e : ∀ i, 0 ≤ i → i < n → g.1 i = g'.1 i ∧ g.2 i = g'.2 i) : nuK g l = nuK g' l := by
  have hh : ∀ k ∈ l, inK g.1 k = inK g'.1 k ∧ mvK g.2 k = mvK g'.2 k := fun k hk => by
    rcases h k hk with ⟨c, x, y, rfl, hc, x0, x1, y0, y1⟩ | ⟨c, x, rfl, hc, x0, x1⟩
    · rw [inA, inA, mvA, mvA, (e x x0 x1).1, (e y y0 y1).1, (e x x0 x1).2, (e y y0 y1).2]
      exact ⟨rfl, rfl⟩
    · rw [inM, inM, mvM, mvM, (e x x0 x1).1, (e x x0 x1).2]
      exact ⟨rfl, rfl⟩
  unfold nuK
  rw [List.filter_congr fun k hk => (hh k hk).1]
  exact List.map_congr_left fun k hk => (hh k (List.mem_filter.mp hk).1).2
theorem nu_all {l : List Ks} {f : Int → Int} : nuK (fun _ => true, f) l = l.map (mvK f) := by
  unfold nuK
  rw [List.filter_eq_self.mpr fun k _ => ?_]
  unfold inK
  exact List.all_eq_true.mpr fun x _ => by cases x <;> rfl
/-- those kept -/
def kf (js : List Int) : (Int → Bool) × (Int → Int) := (fun i => decide (i ∈ js), fun i => (idxI js i : Int))
/-! ### dicts of numbers -/
def kE : Nat → List Int → List (Key × D)
  | _, [] => []
  | i, j :: l => (.inl j, .int (i : Int)) :: kE (i + 1) l
theorem kE_len : ∀ (l : List Int) (i : Nat), (kE i l).length = l.length
  | [], _ => rfl
  | _ :: l, i => congrArg (· + 1) (kE_len l (i + 1))
theorem kE_val (x : Int) : ∀ (l : List Int) (i : Nat), valD (kE i l) (.inl x) = if x ∈ l then some (.int ((i + idxI l x : Nat) : Int)) else none
  | [], i => rfl
  | j :: l, i => by
    have ih := kE_val x l (i + 1)
    unfold valD at ih ⊢
    unfold kE
    by_cases e : j = x
    · subst e
      simp [List.find?_cons, idxI]
    · have ne : (Sum.inl j : Key) ≠ .inl x := fun z => e (Sum.inl.inj z)
      simp only [List.find?_cons, decide_eq_false ne]
      rw [ih]
      by_cases hx : x ∈ l
      · rw [if_pos hx, if_pos (List.mem_cons_of_mem _ hx)]
        have e9 : idxI (j :: l) x = idxI l x + 1 := by
          show (if j = x then 0 else _) = _
          rw [if_neg e]
        rw [e9, show i + 1 + idxI l x = i + (idxI l x + 1) by omega]
      · rw [if_neg hx, if_neg fun z => (List.mem_cons.mp z).elim (fun z => e z.symm) hx]
theorem kE_snoc (j : Int) : ∀ (l : List Int) (i : Nat), kE i (l ++ [j]) = kE i l ++ [(.inl j, .int ((i + l.length : Nat) : Int))]
  | [], i => rfl
  | a :: l, i => by
    show (_ :: kE (i + 1) (l ++ [j])) = _
    rw [kE_snoc j l (i + 1), show i + 1 + l.length = i + (a :: l).length by simp; omega]
    rfl
theorem valD_any (k : Key) : ∀ es : List (Key × D), (es.any fun kv => decide (kv.1 = k)) = (valD es k).isSome
  | [] => rfl
  | p :: es => by
    have ih := valD_any k es
    unfold valD at ih ⊢
    rw [List.any_cons, List.find?_cons]
    by_cases e : p.1 = k
    · simp [e]
    · simp only [decide_eq_false e, Bool.false_or]
      exact ih
theorem putD_new {es : List (Key × D)} {k : Key} {d : D} (h : valD es k = none) : putD es k d = es ++ [(k, d)] := by
  unfold putD
  rw [valD_any, h]
  rfl
theorem valD_cons (p : Key × D) (es : List (Key × D)) (k : Key) : valD (p :: es) k = if p.1 = k then some p.2 else valD es k := by
  unfold valD
  rw [List.find?_cons]
  by_cases e : p.1 = k
  · simp [e]
  · simp [e]
theorem valD_rep (k j : Key) (d : D) : ∀ l : List (Key × D), valD (l.map fun kv => if kv.1 = k then (kv.1, d) else kv) j = if j = k then (if (valD l k).isSome = true then some d else none) else valD l j
  | [] => by simp [valD]
  | p :: l => by
    rw [List.map_cons, valD_cons, valD_cons, valD_cons, valD_rep k j d l]
    by_cases e : p.1 = k
    · rw [if_pos e, if_pos e]
      by_cases ej : j = k
      · rw [if_pos (by rw [e, ej]), if_pos ej]
        rfl
      · rw [if_neg (by rw [e]; exact fun z => ej z.symm), if_neg ej, if_neg ej, if_neg (by rw [e]; exact fun z => ej z.symm)]
    · rw [if_neg e, if_neg e]
      by_cases ej : j = k
      · rw [if_neg (by rw [ej]; exact e), if_pos ej, if_pos ej]
      · rw [if_neg ej, if_neg ej]
theorem valD_app (p : Key × D) (j : Key) : ∀ l : List (Key × D), valD (l ++ [p]) j = if (valD l j).isSome = true then valD l j else if p.1 = j then some p.2 else none
  | [] => by
    rw [List.nil_append, valD_cons]
    simp [valD]
  | q :: l => by
    rw [List.cons_append, valD_cons, valD_cons, valD_app p j l]
    by_cases e : q.1 = j
    · rw [if_pos e, if_pos e]
      rfl
    · rw [if_neg e, if_neg e]
theorem valD_put (k j : Key) (d : D) (es : List (Key × D)) : valD (putD es k d) j = if j = k then some d else valD es j := by
  unfold putD
  rw [valD_any]
  cases hs : (valD es k).isSome with
  | true =>
    rw [if_pos rfl, valD_rep, hs]
    rfl
  | false =>
    rw [if_neg (by decide), valD_app]
    by_cases ej : j = k
    · subst ej
      rw [hs, if_neg (by decide), if_pos rfl, if_pos rfl]
    · rw [if_neg ej, if_neg (show ¬ k = j from fun z => ej z.symm)]
      cases valD es j <;> rfl
theorem dc_run {f : D → M (Option (Key × D))} {h : Int → Int} : ∀ {js : List Int} {acc : List (Key × D)}, (∀ i ∈ js, (f (.int i)).run fun o => o = some (.inl i, .int (h i))) → (dcM f (js.map D.int) acc).run fun es => es.length ≤ acc.length + js.length ∧ ∀ x, valD es (.inl x) = if x ∈ js then some (.int (h x)) else valD acc (.inl x)
  | [], acc, _ => ⟨Nat.le_refl _, fun x => by simp⟩
  | i :: js, acc, hh => (f (.int i)).mono (fun o ho => by
      subst ho
      refine M.mono _ (fun es he => ?_) (dc_run (js := js) (acc := putD acc (.inl i) (.int (h i))) fun x hx => hh x (List.mem_cons_of_mem _ hx))
      have := putD_len acc (.inl i) (.int (h i))
      refine ⟨by rw [List.length_cons]; omega, fun x => ?_⟩
      rw [he.2 x, valD_put]
      by_cases h1 : x ∈ js
      · rw [if_pos h1, if_pos (List.mem_cons_of_mem _ h1)]
      · rw [if_neg h1]
        by_cases h2 : x = i
        · subst h2
          rw [if_pos rfl, if_pos (List.mem_cons_self ..)]
        · rw [if_neg fun z => h2 (Sum.inl.inj z), if_neg fun z => (List.mem_cons.mp z).elim h2 h1]) (hh i (List.mem_cons_self ..))
theorem rng_ints (n : Nat) : rngD 0 n = ((List.range n).map fun (i : Nat) => (i : Int)).map D.int := by
  unfold rngD
  rw [List.map_map]
  refine List.map_congr_left fun i _ => ?_
  show D.int _ = D.int _
  rw [Int.zero_add]
theorem mem_rng {n : Nat} {x : Int} : x ∈ (List.range n).map (fun (i : Nat) => (i : Int)) ↔ 0 ≤ x ∧ x < n := by
  rw [List.mem_map]
  constructor
  · rintro ⟨i, hi, rfl⟩
    have := List.mem_range.mp hi
    omega
  · rintro ⟨h0, h1⟩
    exact ⟨x.toNat, List.mem_range.mpr (by omega), by omega⟩
theorem dg_go {es : List (Key × D)} {i : Int} {z : D} {Q : D → Prop} (h : valD es (.inl i) = some z) (q : Q z) : (dgM (.dk es) (.int i)).run Q := by
  show (M.opt (valD es (.inl i))).run Q
  rw [h]
  exact q
theorem din_go (es : List (Key × D)) (i : Int) : dinM false (.int i) (.dk es) = M.ret (.bl (valD es (.inl i)).isSome) := rfl
theorem lenK_go (es : List (Key × D)) : lenK [.dk es] = M.ret (.int es.length) := rfl
theorem tieA' (c : Str) (x y : Int) : tieD [.inr c, .inl x, .inl y] = .tup [.str c, .int x, .int y] := rfl
theorem tieM' (c : Str) (x : Int) : tieD [.inr c, .inl x] = .tup [.str c, .int x] := rfl
theorem mk2_go (n : Int) (es fs : List D) : mk2 [.int n] [.lst es, .lst fs] = mkM n es fs := rfl
theorem pts_go (n : Int) (As Ms : List Ks) : ptsM [.web n As Ms] = M.ret (.int n) := rfl
theorem arr_go (n : Int) (As Ms : List Ks) : arrM [.web n As Ms] = M.ret (As.map tieD) := rfl
theorem mrk_go (n : Int) (As Ms : List Ks) : mrkM [.web n As Ms] = M.ret (Ms.map tieD) := rfl
section
variable {P : Program} {w : World} {K : PySem.W.Frag} {mg : Str → Option Value} {base : Heap} {C : Addr} {T : List (Addr × Str)} {cls : Str → Addr}
/-! ### turned -/
end
end Dv
namespace Dv
open PySem PySem.Spec PyProof.Rows L2 RZ Sg Tm Wb
local macro_rules | `(tactic| walk_at "r2") => `(tactic| first | with_reducible exact r_I0 | with_reducible exact r_I | with_reducible exact r_eq | with_reducible exact r_ne | with_reducible exact r_isN | with_reducible exact r_notN | with_reducible exact r_ixL | with_reducible exact r_ixT | with_reducible exact r_ixQ | with_reducible exact r_eqD | with_reducible exact r_neD | with_reducible exact r_inD | with_reducible exact r_notInD | with_reducible exact r_isB | with_reducible exact r_notB)
local macro_rules | `(tactic| walk_at "r2l") => `(tactic| first | with_reducible exact r_cat)
local macro_rules | `(tactic| walk_at "rc") => `(tactic| first | with_reducible exact r_len | with_reducible exact r_all)
local macro_rules | `(tactic| walk_at "rcl") => `(tactic| first | with_reducible exact r_list)
local macro_rules | `(tactic| walk_at "eo") => `(tactic| first | with_reducible exact eo_none | (with_reducible apply eo_some; walk_at "ed"))
local macro_rules | `(tactic| walk_at "ea") => `(tactic| first | with_reducible exact ea_nil | (with_reducible apply ea_star; walk_at "ed"; walk_at "ea") | (with_reducible apply ea_cons; walk_at "ed"; walk_at "ea"))
local macro_rules | `(tactic| walk_at "et") => `(tactic| first
  | with_reducible exact et_yes
  | (with_reducible apply et_test; walk_at "ed") | (with_reducible apply et_B; walk_at "ed") | (with_reducible apply et_not; walk_at "et")
  | (with_reducible apply et_and; walk_at "et"; walk_at "et") | (with_reducible apply et_or; walk_at "et"; walk_at "et"))
local macro_rules | `(tactic| walk_at "eg") => `(tactic| first | with_reducible exact eg_name | (with_reducible apply eg_tup; walk_at "egs"))
local macro_rules | `(tactic| walk_at "egs") => `(tactic| first | with_reducible exact eg_nil | (with_reducible apply eg_cons; walk_at "eg"; walk_at "egs"))
local macro_rules | `(tactic| walk_at "es") => `(tactic| first | with_reducible exact es_name | (with_reducible apply es_tup; walk_at "ess"))
local macro_rules | `(tactic| walk_at "ess") => `(tactic| first | with_reducible exact es_nil | (with_reducible apply es_cons; walk_at "es"; walk_at "ess"))
local macro_rules | `(tactic| walk_at "ei") => `(tactic| first | (with_reducible apply ei_list; walk_at "ed") | (with_reducible apply ei_tup; walk_at "ed") | (with_reducible apply ei_rng1; walk_at "ea") | (with_reducible apply ei_rng2; walk_at "ea") | (with_reducible apply ei_str; walk_at "ed"))
local macro_rules | `(tactic| walk_at "el") => `(tactic| first
  | (with_reducible apply el_lst; walk_at "ea")
  | (focus (with_reducible apply el_lc; rotate_left; walk_at "ei"; walk_at "eg"; walk_at "et"; walk_at "ed"; decide))
  | (with_reducible apply el_op; walk_at "r2l"; walk_at "ed"; walk_at "ed")
  | (with_reducible apply el_cb; walk_at "rcl"; walk_at "ea")
  | (with_reducible apply el_sl; walk_at "ed"; walk_at "eo"; walk_at "eo")
  | (with_reducible apply el_call; walk_at "ea")
  | walk_at "el+"
  | (with_reducible apply el_meth; decide; walk_at "ed"; walk_at "ea"))
local macro_rules | `(tactic| walk_at "ed") => `(tactic| first
  | with_reducible exact ed_var | with_reducible exact ed_c
  | (with_reducible apply ed_op; walk_at "r2"; walk_at "ed"; walk_at "ed")
  | (with_reducible apply ed_call; walk_at "ea")
  | (with_reducible apply ed_callX; walk_at "ea")
  | (with_reducible apply ed_tup; walk_at "ea")
  | (with_reducible apply ed_if; walk_at "et"; walk_at "ed"; walk_at "ed")
  | (with_reducible apply ed_cb; walk_at "rc"; walk_at "ea")
  | (with_reducible apply ed_un r_U; walk_at "ed")
  | (with_reducible apply ed_chain; walk_at "r2"; walk_at "r2"; walk_at "ed"; walk_at "ed"; walk_at "ed")
  | (with_reducible apply ed_andV; walk_at "ed"; walk_at "ed") | (with_reducible apply ed_orV; walk_at "ed"; walk_at "ed")
  | (with_reducible apply ed_meth; decide; walk_at "ed"; walk_at "ea")
  | walk_at "ed+"
  | (with_reducible apply EvL.d; walk_at "el"))
local macro_rules | `(tactic| walk_at "svF") => `(tactic| first
  | (with_reducible apply sv_seq; walk_at "svF"; walk_at "svF")
  | (with_reducible apply sv_asg; walk_at "ed")
  | (with_reducible apply sv_if; walk_at "et"; walk_at "svF"; walk_at "svF")
  | (with_reducible apply sv_for; walk_at "ei"; walk_at "es"; walk_at "svF")
  | walk_at "sv")
local macro_rules | `(tactic| walk_at "sv") => `(tactic| first
  | with_reducible exact sv_next | with_reducible exact sv_break | with_reducible exact sv_cont | with_reducible exact sv_never | with_reducible exact sv_retN
  | (with_reducible apply sv_seq; walk_at "sv"; walk_at "sv")
  | (with_reducible apply sv_asgL; walk_at "el")
  | (with_reducible apply sv_asg; walk_at "ed")
  | (with_reducible apply sv_if; walk_at "et"; walk_at "sv"; walk_at "sv")
  | (with_reducible apply sv_for; walk_at "ei"; walk_at "es"; walk_at "sv")
  | (with_reducible apply sv_par; walk_at "ea")
  | (with_reducible apply sv_app; walk_at "ed")
  | (with_reducible apply sv_ret; walk_at "ed")
  | (with_reducible apply sv_asgT; walk_at "ed"; walk_at "es")
  | (with_reducible apply sv_drop; walk_at "ed"))
local macro_rules | `(tactic| walk_at "rc") => `(tactic| first | with_reducible exact r_len | with_reducible exact r_all | with_reducible exact r_max | with_reducible exact r_min)
local macro_rules | `(tactic| walk_at "rcl") => `(tactic| first | with_reducible exact r_list | with_reducible exact r_sort)
local macro_rules | `(tactic| walk_at "el+") => `(tactic| (with_reducible apply el_listRg; walk_at "ed"))
local macro_rules | `(tactic| walk_at "edm") => `(tactic| first | (with_reducible apply ed_index; walk_at "ed"; walk_at "ed") | (with_reducible apply ed_dget2; walk_at "ed"; walk_at "ed"; walk_at "ed") | with_reducible exact ed_disp2 | (with_reducible apply ed_chain; walk_at "r2"; walk_at "r2"; walk_at "ed"; walk_at "ed"; walk_at "ed"))
local macro_rules | `(tactic| walk_at "ed+") => `(tactic| walk_at "edm")
local macro_rules | `(tactic| walk_at "ex") => `(tactic| first | (with_reducible apply ex_callI; walk_at "ea") | (with_reducible apply ex_call; walk_at "ea") | (with_reducible apply ex_opL; walk_at "r2"; walk_at "ex"; walk_at "ed"))
local macro_rules | `(tactic| walk_at "svM") => `(tactic| first
  | (with_reducible apply sv_seq; walk_at "svM"; walk_at "svM")
  | (with_reducible apply sv_ins; walk_at "ed")
  | (with_reducible apply sv_asg; walk_at "ed")
  | (with_reducible apply sv_asgX; walk_at "ex")
  | (with_reducible apply sv_retX; walk_at "ex")
  | (with_reducible apply sv_if; walk_at "et"; walk_at "svM"; walk_at "svM")
  | (with_reducible apply sv_for; walk_at "ei"; walk_at "es"; walk_at "svM")
  | walk_at "sv")
local macro_rules | `(tactic| walk_at "rc") => `(tactic| first | with_reducible exact r_len | with_reducible exact r_lenK | with_reducible exact r_all | with_reducible exact r_max | with_reducible exact r_min | with_reducible exact r_max1 | with_reducible exact r_min1 | with_reducible exact r_int | with_reducible exact r_tup)
local macro_rules | `(tactic| walk_at "ei") => `(tactic| first | (with_reducible apply ei_list; walk_at "ed") | (with_reducible apply ei_tup; walk_at "ed") | (with_reducible apply ei_rng1; walk_at "ea") | (with_reducible apply ei_rng2; walk_at "ea") | (with_reducible apply ei_str; walk_at "ed") | (with_reducible apply ei_en; walk_at "ea"))
local macro_rules | `(tactic| walk_at "edk") => `(tactic| first | (with_reducible apply ed_mk2; walk_at "ea"; walk_at "ea") | (with_reducible apply ed_dget; walk_at "ed"; walk_at "ed") | (with_reducible apply ed_din; walk_at "ed"; walk_at "ed") | (with_reducible apply ed_dnin; walk_at "ed"; walk_at "ed") | walk_at "edm")
local macro_rules | `(tactic| walk_at "ed+") => `(tactic| walk_at "edk")
local macro_rules | `(tactic| walk_at "ek") => `(tactic| first | with_reducible exact ek_new | (focus (with_reducible apply ek_dc; rotate_left; walk_at "ei"; walk_at "eg"; walk_at "et"; walk_at "ed"; walk_at "ed"; decide)))
local macro_rules | `(tactic| walk_at "svN") => `(tactic| first
  | (with_reducible apply sv_seq; walk_at "svN"; walk_at "svN")
  | (with_reducible apply sv_ins; walk_at "ed")
  | (with_reducible apply sv_asgK; walk_at "ek")
  | (with_reducible apply sv_asg; walk_at "ed")
  | (with_reducible apply sv_asgX; walk_at "ex")
  | (with_reducible apply sv_dropX; walk_at "ex")
  | (with_reducible apply sv_retX; walk_at "ex")
  | (with_reducible apply sv_dput; walk_at "ed"; walk_at "ed")
  | (with_reducible apply sv_raise rfl; decide; walk_at "ed")
  | (with_reducible apply sv_if; walk_at "et"; walk_at "svN"; walk_at "svN")
  | (with_reducible apply sv_for; walk_at "ei"; walk_at "es"; walk_at "svN")
  | walk_at "sv")
def rmpM : List D → M Rx
  | [.int n, .int p] => if 0 ≤ p ∧ p < n then M.ret (.ok .non) else M.ret (.er ⟨"BadPoint", "number", .int p⟩)
  | _ => M.fail
theorem rmp_go (n p : Int) : rmpM [.int n, .int p] = if 0 ≤ p ∧ p < n then M.ret (.ok .non) else M.ret (.er ⟨"BadPoint", "number", .int p⟩) := rfl
theorem ouX_ok (ρ : Ev) (d : D) : ouX ρ (.ok d) = M.ret (.nx ρ) := rfl
theorem ouX_er (ρ : Ev) (x : Exn) : ouX ρ (.er x) = M.ret (.er x) := rfl
/-- those of a row that are wrong: not there, or there ahead of it -/
def wr (n : Int) : List Int → List Int → List Int
  | _, [] => []
  | done, j :: js => if (0 ≤ j ∧ j < n) ∧ j ∉ done then wr n (done ++ [j]) js else j :: wr n (done ++ [j]) js
theorem wr_at {n : Int} : ∀ {js done : List Int} {i : Nat} (h : i < js.length), (∀ m, (hm : m < i) → (0 ≤ js[m] ∧ js[m] < n) ∧ js[m] ∉ done ++ js.take m) → ¬ ((0 ≤ js[i] ∧ js[i] < n) ∧ js[i] ∉ done ++ js.take i) → (wr n done js).head? = some js[i]
  | j :: js, done, 0, h, _, hb => by
    simp only [List.getElem_cons_zero, List.take_zero, List.append_nil] at hb ⊢
    unfold wr
    rw [if_neg hb]
    rfl
  | j :: js, done, i + 1, h, hg, hb => by
    have g0 := hg 0 (Nat.succ_pos _)
    simp only [List.getElem_cons_zero, List.take_zero, List.append_nil] at g0
    unfold wr
    rw [if_pos g0]
    refine wr_at (js := js) (done := done ++ [j]) (i := i) (by simpa using h) (fun m hm => ?_) (by simpa using hb)
    have := hg (m + 1) (by omega)
    simpa using this
theorem wr_none {n : Int} : ∀ {js done : List Int}, (∀ m, (hm : m < js.length) → (0 ≤ js[m] ∧ js[m] < n) ∧ js[m] ∉ done ++ js.take m) → wr n done js = []
  | [], _, _ => rfl
  | j :: js, done, hg => by
    have g0 := hg 0 (Nat.succ_pos _)
    simp only [List.getElem_cons_zero, List.take_zero, List.append_nil] at g0
    unfold wr
    rw [if_pos g0]
    refine wr_none fun m hm => ?_
    have := hg (m + 1) (by simpa using hm)
    simpa using this
/-- how the points of a web of n points are numbered when two are made one -/
def spF (a b p : Int) : Int := if p = max a b then min a b else if p < max a b then p else p - 1
theorem spF_in {n a b p : Int} (ha : 0 ≤ a ∧ a < n) (hb : 0 ≤ b ∧ b < n) (ne : a ≠ b) (hp : 0 ≤ p ∧ p < n) : 0 ≤ spF a b p ∧ spF a b p < n - 1 := by
  unfold spF
  split
  · omega
  · split <;> omega
theorem kf_in {n : Int} {js : List Int} : ∀ i, 0 ≤ i → i < n → (kf js).1 i = true → 0 ≤ (kf js).2 i ∧ (kf js).2 i < (js.length : Int) := fun i _ _ h => by
  have h : decide (i ∈ js) = true := h
  have := idx_lt (of_decide_eq_true h)
  show 0 ≤ (idxI js i : Int) ∧ (idxI js i : Int) < _
  omega
theorem le_81 {n : Int} {js : List Int} {k : Nat} {hk : k ≤ js.length} (h0 : 0 ≤ n) (hn : n ≤ 81) (h : ∀ m, (hm : m < k) → (0 ≤ js[m] ∧ js[m] < n) ∧ js[m] ∉ [] ++ js.take m) : (k : Int) ≤ 81 := by
  have nd : (js.take k).Nodup := by
    clear hn
    induction k with
    | zero => rw [List.take_zero]; exact List.nodup_nil
    | succ k ih =>
      rw [take_snoc (by omega)]
      refine List.nodup_append.mpr ⟨ih (hk := by omega) fun m hm => h m (by omega), List.nodup_cons.mpr ⟨(fun z => nomatch z), List.nodup_nil⟩, fun a ha b hb e => ?_⟩
      subst e
      rw [List.mem_singleton.mp hb] at ha
      exact (h k (by omega)).2 (by rw [List.nil_append]; exact ha)
  have sb : ∀ x ∈ js.take k, x ∈ (List.range 81).map fun (i : Nat) => (i : Int) := fun x hx => by
    obtain ⟨m, hm, rfl⟩ := List.getElem_of_mem hx
    rw [List.length_take] at hm
    rw [List.getElem_take]
    have := (h m (by omega)).1
    exact mem_rng.mpr ⟨this.1, by omega⟩
  have := List.Nodup.length_le_of_subset nd sb
  rw [List.length_take, List.length_map, List.length_range] at this
  omega
theorem M.opt_go {α : Type} {o : Option α} {a : α} {Q : α → Prop} (h : o = some a) (q : Q a) : (M.opt o).run Q := by
  subst h
  exact q
theorem ownK_go (x y : Option Sl) (es : List (Key × D)) (r : Ev) : ownK (x :: y :: some (.od es) :: r) 2 = M.ret es := rfl
section
variable {P : Program} {w : World} {K : PySem.W.Frag} {mg : Str → Option Value} {base : Heap} {C : Addr} {T : List (Addr × Str)} {cls : Str → Addr}
end
end Dv
namespace Dv
open PySem PySem.Spec PyProof.Rows L2 RZ Sg Tm Wb
local macro_rules | `(tactic| walk_at "r2") => `(tactic| first | with_reducible exact r_I0 | with_reducible exact r_I | with_reducible exact r_eq | with_reducible exact r_ne | with_reducible exact r_isN | with_reducible exact r_notN | with_reducible exact r_ixL | with_reducible exact r_ixT | with_reducible exact r_ixQ | with_reducible exact r_eqD | with_reducible exact r_neD | with_reducible exact r_inD | with_reducible exact r_notInD | with_reducible exact r_isB | with_reducible exact r_notB)
local macro_rules | `(tactic| walk_at "r2l") => `(tactic| first | with_reducible exact r_cat)
local macro_rules | `(tactic| walk_at "rc") => `(tactic| first | with_reducible exact r_len | with_reducible exact r_all)
local macro_rules | `(tactic| walk_at "rcl") => `(tactic| first | with_reducible exact r_list)
local macro_rules | `(tactic| walk_at "eo") => `(tactic| first | with_reducible exact eo_none | (with_reducible apply eo_some; walk_at "ed"))
local macro_rules | `(tactic| walk_at "ea") => `(tactic| first | with_reducible exact ea_nil | (with_reducible apply ea_star; walk_at "ed"; walk_at "ea") | (with_reducible apply ea_cons; walk_at "ed"; walk_at "ea"))
local macro_rules | `(tactic| walk_at "et") => `(tactic| first
  | with_reducible exact et_yes
  | (with_reducible apply et_test; walk_at "ed") | (with_reducible apply et_B; walk_at "ed") | (with_reducible apply et_not; walk_at "et")
  | (with_reducible apply et_and; walk_at "et"; walk_at "et") | (with_reducible apply et_or; walk_at "et"; walk_at "et"))
local macro_rules | `(tactic| walk_at "eg") => `(tactic| first | with_reducible exact eg_name | (with_reducible apply eg_tup; walk_at "egs"))
local macro_rules | `(tactic| walk_at "egs") => `(tactic| first | with_reducible exact eg_nil | (with_reducible apply eg_cons; walk_at "eg"; walk_at "egs"))
local macro_rules | `(tactic| walk_at "es") => `(tactic| first | with_reducible exact es_name | (with_reducible apply es_tup; walk_at "ess"))
local macro_rules | `(tactic| walk_at "ess") => `(tactic| first | with_reducible exact es_nil | (with_reducible apply es_cons; walk_at "es"; walk_at "ess"))
local macro_rules | `(tactic| walk_at "ei") => `(tactic| first | (with_reducible apply ei_list; walk_at "ed") | (with_reducible apply ei_tup; walk_at "ed") | (with_reducible apply ei_rng1; walk_at "ea") | (with_reducible apply ei_rng2; walk_at "ea") | (with_reducible apply ei_str; walk_at "ed"))
local macro_rules | `(tactic| walk_at "el") => `(tactic| first
  | (with_reducible apply el_lst; walk_at "ea")
  | (focus (with_reducible apply el_lc; rotate_left; walk_at "ei"; walk_at "eg"; walk_at "et"; walk_at "ed"; decide))
  | (with_reducible apply el_op; walk_at "r2l"; walk_at "ed"; walk_at "ed")
  | (with_reducible apply el_cb; walk_at "rcl"; walk_at "ea")
  | (with_reducible apply el_sl; walk_at "ed"; walk_at "eo"; walk_at "eo")
  | (with_reducible apply el_call; walk_at "ea")
  | walk_at "el+"
  | (with_reducible apply el_meth; decide; walk_at "ed"; walk_at "ea"))
local macro_rules | `(tactic| walk_at "ed") => `(tactic| first
  | with_reducible exact ed_var | with_reducible exact ed_c
  | (with_reducible apply ed_op; walk_at "r2"; walk_at "ed"; walk_at "ed")
  | (with_reducible apply ed_call; walk_at "ea")
  | (with_reducible apply ed_callX; walk_at "ea")
  | (with_reducible apply ed_tup; walk_at "ea")
  | (with_reducible apply ed_if; walk_at "et"; walk_at "ed"; walk_at "ed")
  | (with_reducible apply ed_cb; walk_at "rc"; walk_at "ea")
  | (with_reducible apply ed_un r_U; walk_at "ed")
  | (with_reducible apply ed_chain; walk_at "r2"; walk_at "r2"; walk_at "ed"; walk_at "ed"; walk_at "ed")
  | (with_reducible apply ed_andV; walk_at "ed"; walk_at "ed") | (with_reducible apply ed_orV; walk_at "ed"; walk_at "ed")
  | (with_reducible apply ed_meth; decide; walk_at "ed"; walk_at "ea")
  | walk_at "ed+"
  | (with_reducible apply EvL.d; walk_at "el"))
local macro_rules | `(tactic| walk_at "svF") => `(tactic| first
  | (with_reducible apply sv_seq; walk_at "svF"; walk_at "svF")
  | (with_reducible apply sv_asg; walk_at "ed")
  | (with_reducible apply sv_if; walk_at "et"; walk_at "svF"; walk_at "svF")
  | (with_reducible apply sv_for; walk_at "ei"; walk_at "es"; walk_at "svF")
  | walk_at "sv")
local macro_rules | `(tactic| walk_at "sv") => `(tactic| first
  | with_reducible exact sv_next | with_reducible exact sv_break | with_reducible exact sv_cont | with_reducible exact sv_never | with_reducible exact sv_retN
  | (with_reducible apply sv_seq; walk_at "sv"; walk_at "sv")
  | (with_reducible apply sv_asgL; walk_at "el")
  | (with_reducible apply sv_asg; walk_at "ed")
  | (with_reducible apply sv_if; walk_at "et"; walk_at "sv"; walk_at "sv")
  | (with_reducible apply sv_for; walk_at "ei"; walk_at "es"; walk_at "sv")
  | (with_reducible apply sv_par; walk_at "ea")
  | (with_reducible apply sv_app; walk_at "ed")
  | (with_reducible apply sv_ret; walk_at "ed")
  | (with_reducible apply sv_asgT; walk_at "ed"; walk_at "es")
  | (with_reducible apply sv_drop; walk_at "ed"))
local macro_rules | `(tactic| walk_at "rc") => `(tactic| first | with_reducible exact r_len | with_reducible exact r_all | with_reducible exact r_max | with_reducible exact r_min)
local macro_rules | `(tactic| walk_at "rcl") => `(tactic| first | with_reducible exact r_list | with_reducible exact r_sort)
local macro_rules | `(tactic| walk_at "el+") => `(tactic| (with_reducible apply el_listRg; walk_at "ed"))
local macro_rules | `(tactic| walk_at "edm") => `(tactic| first | (with_reducible apply ed_index; walk_at "ed"; walk_at "ed") | (with_reducible apply ed_dget2; walk_at "ed"; walk_at "ed"; walk_at "ed") | with_reducible exact ed_disp2 | (with_reducible apply ed_chain; walk_at "r2"; walk_at "r2"; walk_at "ed"; walk_at "ed"; walk_at "ed"))
local macro_rules | `(tactic| walk_at "ed+") => `(tactic| walk_at "edm")
local macro_rules | `(tactic| walk_at "ex") => `(tactic| first | (with_reducible apply ex_callI; walk_at "ea") | (with_reducible apply ex_call; walk_at "ea") | (with_reducible apply ex_opL; walk_at "r2"; walk_at "ex"; walk_at "ed"))
local macro_rules | `(tactic| walk_at "svM") => `(tactic| first
  | (with_reducible apply sv_seq; walk_at "svM"; walk_at "svM")
  | (with_reducible apply sv_ins; walk_at "ed")
  | (with_reducible apply sv_asg; walk_at "ed")
  | (with_reducible apply sv_asgX; walk_at "ex")
  | (with_reducible apply sv_retX; walk_at "ex")
  | (with_reducible apply sv_if; walk_at "et"; walk_at "svM"; walk_at "svM")
  | (with_reducible apply sv_for; walk_at "ei"; walk_at "es"; walk_at "svM")
  | walk_at "sv")
local macro_rules | `(tactic| walk_at "rc") => `(tactic| first | with_reducible exact r_len | with_reducible exact r_lenK | with_reducible exact r_all | with_reducible exact r_max | with_reducible exact r_min | with_reducible exact r_max1 | with_reducible exact r_min1 | with_reducible exact r_int | with_reducible exact r_tup)
local macro_rules | `(tactic| walk_at "ei") => `(tactic| first | (with_reducible apply ei_list; walk_at "ed") | (with_reducible apply ei_tup; walk_at "ed") | (with_reducible apply ei_rng1; walk_at "ea") | (with_reducible apply ei_rng2; walk_at "ea") | (with_reducible apply ei_str; walk_at "ed") | (with_reducible apply ei_en; walk_at "ea"))
local macro_rules | `(tactic| walk_at "edk") => `(tactic| first | (with_reducible apply ed_mk2; walk_at "ea"; walk_at "ea") | (with_reducible apply ed_dget; walk_at "ed"; walk_at "ed") | (with_reducible apply ed_din; walk_at "ed"; walk_at "ed") | (with_reducible apply ed_dnin; walk_at "ed"; walk_at "ed") | walk_at "edm")
local macro_rules | `(tactic| walk_at "ed+") => `(tactic| walk_at "edk")
local macro_rules | `(tactic| walk_at "ek") => `(tactic| first | with_reducible exact ek_new | (focus (with_reducible apply ek_dc; rotate_left; walk_at "ei"; walk_at "eg"; walk_at "et"; walk_at "ed"; walk_at "ed"; decide)))
local macro_rules | `(tactic| walk_at "svN") => `(tactic| first
  | (with_reducible apply sv_seq; walk_at "svN"; walk_at "svN")
  | (with_reducible apply sv_ins; walk_at "ed")
  | (with_reducible apply sv_asgK; walk_at "ek")
  | (with_reducible apply sv_asg; walk_at "ed")
  | (with_reducible apply sv_asgX; walk_at "ex")
  | (with_reducible apply sv_dropX; walk_at "ex")
  | (with_reducible apply sv_retX; walk_at "ex")
  | (with_reducible apply sv_dput; walk_at "ed"; walk_at "ed")
  | (with_reducible apply sv_raise rfl; decide; walk_at "ed")
  | (with_reducible apply sv_if; walk_at "et"; walk_at "svN"; walk_at "svN")
  | (with_reducible apply sv_for; walk_at "ei"; walk_at "es"; walk_at "svN")
  | walk_at "sv")
theorem dcF_go {b : D → Dv.Env → M Dv.Env} {mt : Dv.Env → M Bool} {mk mv : Dv.Env → M D} {ρ : Dv.Env} {d : D} : dcF b mt mk mv ρ d = M.bnd (b d ρ) fun ρ' => M.bnd (mt ρ') fun t => if t = true then M.bnd (mk ρ') fun y => M.bnd (mv ρ') fun z => M.bnd (M.opt (keyOf y)) fun k => M.ret (some (k, z)) else M.ret none := rfl
theorem keyOf_int (i : Int) : keyOf (.int i) = some (.inl i) := rfl
theorem optS {α : Type} (a : α) : M.opt (some a) = M.ret a := rfl
structure Bm (mg : Str → Option Value) : Prop where
  range : mg "range" = none
  max : mg "max" = none
  min : mg "min" = none
theorem rev_inj {n : Int} {k k' : Ks} (h : AK n k) (h' : AK n k') (e : revK k = revK k') : k = k' := by
  obtain ⟨c, x, y, rfl, _⟩ := h
  obtain ⟨c', x', y', rfl, _⟩ := h'
  simp only [revK, List.cons.injEq] at e
  obtain ⟨e1, e2, e3, _⟩ := e
  rw [e1, e2, e3]
theorem rev_A {n : Int} {l : List Ks} (h : ∀ k ∈ l, AK n k) : ∀ k ∈ l.map revK, AK n k := fun k hk => by
  obtain ⟨k', hk', rfl⟩ := List.mem_map.mp hk
  obtain ⟨c, x, y, rfl, hc, x0, x1, y0, y1⟩ := h k' hk'
  exact ⟨c, y, x, rfl, hc, y0, y1, x0, x1⟩
theorem ownK_go4 (a b c d : Option Sl) (es : List (Key × D)) (r : Ev) : ownK (a :: b :: c :: d :: some (.od es) :: r) 4 = M.ret es := rfl
section
variable {P : Program} {w : World} {K : PySem.W.Frag} {mg : Str → Option Value} {base : Heap} {C : Addr} {T : List (Addr × Str)} {cls : Str → Addr}
abbrev s_law_told : Stmt := topS 35
def toldM : List D → M D
  | [.web n As Ms] => M.ret (mwD n As Ms)
  | _ => M.fail
theorem told_go (n : Int) (As Ms : List Ks) : toldM [.web n As Ms] = M.ret (mwD n As Ms) := rfl
theorem len_told {ds : List D} {Q : _ → Prop} (h : (toldM ds).run Q) : ds.length = 1 := by
  unfold toldM at h
  split at h
  · rfl
  · exact h.elim
abbrev N_told : List Str := ["_law_web_here"]
theorem sc_told : FnScope N_told ["_law_web_here"] (defScope s_law_told) := ⟨rfl, rfl, rfl, by decide +kernel, rfl, by decide +kernel, by decide +kernel⟩
theorem ok_told {f : Addr} {fd : FuncData} (F : Fun K "_law_told" "_law_told" s_law_told f fd) {fP fA fM : Addr} {dP dA dM : FuncData} (c : Cls K C) (mPt : Mf P w K mg base 1 C "points" (spD (mkS K C T cls) ptsM) fP dP) (mAr : Mf P w K mg base 1 C "arrows" (spL (mkS K C T cls) arrM) fA dA) (mMr : Mf P w K mg base 1 C "marks" (spL (mkS K C T cls) mrkM) fM dM) : FnOk P w K mg base CX0 3 f fd ["_law_web_here"] (spD (mkS K C T cls) toldM) := by
  refine F.ok sc_told (fun vs H Q E h => ?_) (fun cdv A outer s H vs Q E hr h => ?_)
  · obtain ⟨B, G, ds, _, r, h⟩ := h
    rw [r.length]
    exact len_told h
  · have hu5 : (A.deeper (envOfC "_law_told" (defScope s_law_told) s.heap.objs.size f cdv)).units + 65 < cLine := by
      have := hr.un
      omega
    have hu : (A.deeper (envOfC "_law_told" (defScope s_law_told) s.heap.objs.size f cdv)).units + 64 < cLine := by omega
    have hu1 : (A.deeper (envOfC "_law_told" (defScope s_law_told) s.heap.objs.size f cdv)).units + 1 < cLine := by omega
    refine ⟨_, (pss_one (ps_ret (pe_tup (pa_cons (pe_meth0 (pv 0) c mPt.mt mPt.ok (hr.mono (by decide)) mPt.bd .nil pass0) (pa_cons (pe_meth0 (pv 0) c mAr.mt mAr.ok (hr.mono (by decide)) mAr.bd .nil pass0) (pa_cons (pe_meth0 (pv 0) c mMr.mt mMr.ok (hr.mono (by decide)) mMr.bd .nil pass0) pa_nil)))))), ?_⟩
    refine run_D (X := E) (S := mkS K C T cls) (N := N_told) (by walk_at "svN") ?_ h
    intro ds Q hq
    unfold toldM at hq
    split at hq
    · rename_i n As Ms
      have e : startE N_told.length [.web n As Ms] = [some (.f (.web n As Ms))] := rfl
      rw [e]
      simp only [arr_go, mrk_go, pts_go, run_bnd, run_ret, run_opt, run_req, run_all, run_choose, run_ite, then_nx, then_rt, then_rl, then_er, then_ct, then_bk, outD_rt, outD_rl, outD_nx, outL_rl, outX_rt, outX_rl, outX_nx, outX_er, mask_nil, mask_cons, mk0_f, mk0_o, mk0_od, mk0_ot, mk0_n, peek_nil, peek_cons, pk_f, pk_o, pk_od, pk_ot, pk_n, dOf_int, dOf_bl, dOf_str, dOf_non, opI0_int, opI_int, unI_int, asB_bl, asI_int, asL_lst, asT_tup, asW_web, eqS_int, eqS_str, ixL_lst, ixT_tup, ixQ_lst, ixQ_tup, lenD_lst, lenD_tup, listD_lst, listD_tup, catD_lst, rng1_int, rng2_int, sName_go, sTup_go, sCons_go, sNil_go, bTup_go, bCons_go, bNil_go, two_go, List.set_cons_zero, List.set_cons_succ, List.getElem?_cons_zero, List.getElem?_cons_succ, Option.join_some, atI_0, atI_1, atI_2, decide_eq_true_eq, wipeE, List.map_cons, List.map_nil, step_nx, step_ct, step_bk, step_rt, step_rl, step_er, vOf_int, vOf_str]
      exact ⟨by show 3 ≤ 100000; decide, hq⟩
    · exact hq.elim
end
end Dv
/-! len(x) of an instance by its own __len__ -/
namespace Nq
open PySem PySem.W PySem.Calls PyProof.Rows Builtin L2
section
variable {prog : Program} {w : World} {A : Around} {E : Value → Shared → Prop} {s : Shared} {K : Frag} {x C f : Addr} {ox : Obj} {od : Option Obj}
theorem len_own (Xh : K.In s.heap) (It : InstAt s.heap x ox C od) (e : findIn K (.ref C) "__len__" = some (some (.ref f))) (hf : isFn K (.ref f) = true) {R : Value → Shared → Prop}
    (go : wpAny (model prog w) A.in1 (call (.ref f) [.ref x]) (fun u s2 => ∃ n t, u = .int n t ∧ 0 ≤ n ∧ n < 2 ^ 62 ∧ R (.int n s2.toks) { s2 with toks := s2.toks + 1 }) E s) : wpAny (model prog w) A (call (.builtin "len") [.ref x]) R E s := by
  refine Calls.call_function_entry kind_len plain_len entry_len (args_len1 _) ?_
  unfold Builtin.«len»
  refine wpAny_bind (m := oneArg "len" _) (wpAny_pure (wpAny_bind (m := callSpecial? (.ref x) (Str.ofString "__len__")) (special_fn Xh It e (beq_iff_eq.mp hf) (wpAny_mono go (fun u s2 g => ?_) fun _ _ g => g))))
  obtain ⟨n, t, rfl, h0, h1, g⟩ := g
  refine wpAny_bind (wpAny_holding (wpAny_pure (wpAny_bind (wpAny_letGo ?_))))
  have c1 : ¬ n < 0 := by omega
  have c2 : ¬ n ≥ 2 ^ 63 := by omega
  show wpAny _ _ (if n < 0 then _ else _) _ _ s2
  rw [if_neg c1]
  show wpAny _ _ (if n ≥ 2 ^ 63 then _ else _) _ _ s2
  rw [if_neg c2]
  exact wpAny_bind (wpAny_mkInt (wpAny_pure ⟨_, rfl, g⟩))
end
def spLen (R : Addr → Int → Hp → Prop) : Sp := fun vs H Q _ => ∃ x n, vs = [.ref x] ∧ R x n H ∧ Q (.int n) H
def rLenI (C : Addr) (R : Addr → Int → Hp → Prop) : List V → Hp → VK → Prop := fun vs H Q => ∃ x n dx fs, vs = [.ref x] ∧ H x = some (.ins C dx fs) ∧ R x n H ∧ 0 ≤ n ∧ n < 2 ^ 62 ∧ Q (.int n) H
section
variable {X : Cx} {n : Nat}
theorem call_lenI {CX : CXT} {K : Frag} {C f : Addr} {fd : FuncData} {ps : List Str} {R : Addr → Int → Hp → Prop} {E : XK} (hK : X.K = K) (F : FnOk X.prog X.w K X.mg X.base CX n f fd ps (spLen R)) (e : findIn K (.ref C) "__len__" = some (some (.ref f))) (hf : isFn K (.ref f) = true)
    (hb : Binds K fd ps []) (hx : Passes CX X E) (hr : Room (n + 1) X.A) : CallR X (.builtin "len") (rLenI C R) := by
  subst hK
  rintro pins s σ H vs us Q I r ⟨a, m, dx, fs, rfl, ha, hR, h0, h1, q⟩
  rw [Vals.ref1 r]
  obtain ⟨_, J, _⟩ := ins_get I.hok ha
  obtain ⟨_, J, _⟩ := J.look
  have sb : L2.Sub X (n + 1) X.A := ⟨hr, rfl⟩
  have sb1 := sb.in1
  refine len_own I.kIn J e hf ?_
  have sp : spLen R [.ref a] H (fun v H' => v = .int m ∧ H' = H) E := ⟨a, m, rfl, hR, rfl, rfl⟩
  have ev : Env0 X.prog X.w X.K X.mg X.base X.A.in1 X.stack s H := by
    have z := I.env0
    exact ⟨by rw [sb1.fr]; exact z.frames, z.mod, z.bs, z.bsz, z.funs, z.frf, z.hok, z.bare⟩
  have one : Vals [V.ref a] [Value.ref a] := .cons rfl .nil
  have bd := hb s [.ref a] I.kIn (by simpa using F.len _ _ _ _ sp)
  refine wpAny_call (codeAny_mono (F.run X.A.in1 X.stack s H ⟨[.ref a], []⟩ [.ref a] [.ref a] _ E sb1.room ev (by simpa using bd) one sp) fun r s' g => ?_)
  cases r with
  | error z => exact hx pins σ H s z s' I g
  | ok fl =>
    cases fl with
    | ret z =>
      obtain ⟨zz, H', I', rz, ez, eh⟩ := I.after g
      subst ez eh
      obtain ⟨t, rfl⟩ := rz
      exact ⟨m, t, rfl, h0, h1, .int m, H', I'.tok _, ⟨_, rfl⟩, q⟩
    | next => exact False.elim g
    | brk => exact False.elim g
    | cont => exact False.elim g
end
end Nq
namespace Dv
open PySem PySem.Spec PyProof.Rows L2 Sg
variable {S : Base} {B : Bo S} {X : XK}
/-! ### names set by a list; numbers sorted; a call with a default that may refuse -/
def sLst (n : Nat) (bs : List D → Ev → M Ev) : D → Ev → M Ev
  | .lst ds, ρ => M.bnd (M.req (ds.length = n)) fun _ => bs ds ρ
  | _, _ => M.fail
theorem sLst_go (n : Nat) (bs : List D → Ev → M Ev) (ds : List D) (ρ : Ev) : sLst n bs (.lst ds) ρ = M.bnd (M.req (ds.length = n)) fun _ => bs ds ρ := rfl
theorem es_lst {n : Nat} {gs : TGs} {bs : List D → Ev → M Ev} (h : EgsS S gs bs) : EgS S (gLst S.K n gs) (sLst n bs) := fun B H0 G0 σ H ρ G A v d Q r hr q => by
  cases hr <;> first
    | exact q.elim
    | (rename_i ha hx
       exact ⟨_, _, rfl, SqL.of (r.ok.sub _ _ ha), by rw [hx.length]; exact q.1, h B H0 G0 σ H ρ G A _ _ Q r hx q.2⟩)
def srtI : List D → M (List D)
  | [.lst es] => M.bnd (M.choose fun js : List Int => es = js.map D.int ∧ js.length < 64) fun js => M.bnd (M.all fun us : List Int => us.Perm js ∧ us.Pairwise (· ≤ ·)) fun us => M.ret (us.map D.int)
  | _ => M.fail
theorem srtI_go (es : List D) : srtI [.lst es] = M.bnd (M.choose fun js : List Int => es = js.map D.int ∧ js.length < 64) fun js => M.bnd (M.all fun us : List Int => us.Perm js ∧ us.Pairwise (· ≤ ·)) fun us => M.ret (us.map D.int) := rfl
theorem r_sortI : RCL S (rSorted S.K) srtI := fun B H G vs ds Q k r h => by
  unfold srtI at h
  split at h
  · obtain ⟨js, ⟨rfl, hl⟩, h⟩ := h
    cases r with
    | cons a b =>
      cases b
      cases a with
      | lst ha hr =>
        rw [ints_of hr] at ha
        exact ⟨_, js, rfl, SqL.of (k.sub _ _ ha), hl, fun us p h1 h2 hp => Rs2.lay k (show Rs2 S B H G Q (us.map D.int) from h us ⟨h1, h2⟩) (RpA.ints us) hp⟩
  · exact h.elim
section
variable {Y : Cx} {K : PySem.W.Frag} {pos : Pos}
theorem dv_sortI (h : Y.K = K) : CallR Y (.builtin "sorted") (rSorted K) := by subst h; exact cr_sorted
theorem dg_lst {es : List Expr} {k : Nat} {t : TGs} {n : Nat} (h : Y.K = K) (hc : Y.calm = true) (ht : PGs Y es t) (hn : (assignEach es Y.env).length = n := by rfl) (hs : List.findIdx? (fun x => x.fst) (assignEach es Y.env) = none := by rfl) : PG Y (Expr.Tuple es k pos) (gLst K n t) := by
  subst h
  exact pg_lst hc ht hn hs
end
theorem ed_callIX {f : List D → M Rx} {E : XK} {i : Int} {t : TA} {m : Env → M (List D)} (h : EvA S t m) : EvD S (tCall (spX S f) [.int i] E t) (fun ρ => M.bnd (m ρ) fun l => M.bnd (f (l ++ [.int i])) okR) := fun B σ H G ρ Q k er q =>
  h B σ H G ρ _ k er ((m ρ).mono (fun l hl vs H1 G1 k1 c1 r1 => ⟨B, G1, _, k1, r1.append (.cons (.int i) .nil), (f _).mono (fun y hy => by
    cases y with
    | ok d => exact Rs1.after c1 hy
    | er x => exact hy.elim) hl⟩) q)
theorem M.sel_fltM {α β γ : Type} {f : α → M (Option γ)} {g : β → α} {p : β → Bool} {h : β → γ} : ∀ {l : List β}, (∀ b ∈ l, (f (g b)).run fun o => o = if p b = true then some (h b) else none) → (M.sel f (l.map g)).run fun bs => bs = (l.filter p).map h
  | [], _ => rfl
  | b :: l, hh => (f (g b)).mono (fun o e => by
      refine (M.sel f (l.map g)).mono (fun bs hbs => ?_) (M.sel_fltM fun x hx => hh x (List.mem_cons_of_mem _ hx))
      subst e hbs
      rw [List.filter_cons]
      cases p b <;> rfl) (hh b (List.mem_cons_self ..))
end Dv
namespace Dv
open PySem PySem.Spec PyProof.Rows L2 Sg
variable {S : Base} {B : Bo S} {X : XK}
/-! ### x = l.pop() -/
theorem RpA.last {G : Hp} {xs : List V} {ds : List D} (r : RpA S B G xs ds) : RpA S B G xs.dropLast ds.dropLast := by
  rw [List.dropLast_eq_take, List.dropLast_eq_take, r.length]
  exact r.take _
theorem sv_pop {i j : Nat} : SvD S X (tAsg (tBM0 S.K "list" rPop (tVar i)) (gName j)) (fun ρ => M.bnd (ownL ρ i) fun ds => M.bnd (M.opt ds.getLast?) fun d => M.ret (.nx ((ρ.set i (some (.o ds.dropLast))).set j (some (.f d))))) := fun B H0 G0 σ H ρ E ⟨G, A, r⟩ q => by
  obtain ⟨ds, e, q⟩ := ownL_run q
  obtain ⟨d, hd, q⟩ := M.run_opt q
  obtain ⟨h1, h2, h3, o, h4, h5⟩ := r.ow i _ e rfl
  cases o <;> first
    | exact h5.elim
    | (rename_i xs
       rw [List.getLast?_eq_getElem?] at hd
       obtain ⟨y, hy, ry⟩ := RpA.get h5 hd
       refine ⟨_, h1, .inl ⟨rfl, _, SqL.of h4⟩, _, xs, y, rfl, rfl, h4, by rw [RpA.length h5]; exact hy, ?_⟩
       exact (show ∀ σ H, Rs S B H0 G0 σ H _ → E.nx σ H from q) _ _ ⟨G, A, (r.put (s' := .o ds.dropLast) (o' := .lst xs.dropLast) e rfl rfl (show RpA S B G xs.dropLast ds.dropLast from RpA.last h5)).set ry j⟩)
theorem pe_bm0Q {Y : Cx} {K : PySem.W.Frag} {o : Expr} {to : TE} {name : Str} {apos cpos : Pos} {T id : String} {r : V → List V → Hp → VK → Prop} (hK : Y.K = K) (pa : PlainAttrs T) (slot : Slot T name id) (hty : typeOf (.builtin id) = pure (.type "method_descriptor")) (hm : MtR Y id r) (ho : PE Y o to) (hb : attributeBase o name Y.env (eval o Y.env) = eval o Y.env := by rfl) (hl : (apos.endLine == cpos.line) = true := by rfl) : PE Y (.Call (.Attribute o name apos) [] [] cpos) (tBM0 K T r to) := by
  subst hK
  exact pe_bm0 pa slot hty hm ho hb hl
/-! ### {k: v} -/
theorem ek_disp1 {tk tv : TE} {mk mv : Env → M D} (hk : EvD S tk mk) (hv : EvD S tv mv) : EvK S (tDisp [(tk, tv)]) (fun ρ => M.bnd (mk ρ) fun y => M.bnd (mv ρ) fun z => M.bnd (M.opt (keyOf y)) fun k => M.ret [(k, z)]) := fun B σ H G ρ Q k er q p hp => by
  obtain ⟨k1, c1⟩ := k.lay hp (.dK [])
  have nb : ∀ q, B.bq ≠ some (p, q) := fun q e => k.ne e (FrA.of hp) rfl
  have aw := k.away (FrA.of hp)
  refine hk B σ _ G ρ _ k1 er ((mk ρ).mono (fun y hy v1 H1 G1 k2 c2 r1 => ?_) q)
  obtain ⟨hD2, gD2⟩ := c2.mine upd_same (k.sub.free hp) rfl nb
  refine hv B σ H1 G1 ρ _ k2 (er.mono c2.ext) ((mv ρ).mono (fun z hz v2 H2 G2 k3 c3 r2 => ?_) hy)
  obtain ⟨hD3, gD3⟩ := c3.mine hD2 gD2 rfl nb
  obtain ⟨kk, hkk, hz⟩ := M.run_opt hz
  refine ⟨hD3, [(kk, v2)], by rw [rp_keyOf hkk r1]; rfl, by show 1 ≤ 15; decide, ?_⟩
  have e : mergeK [] [(kk, v2)] = [(kk, v2)] := by simp [mergeK, putK]
  rw [e]
  exact (show Rs3 S B H G Q [(kk, z)] from hz) p [(kk, v2)] _ G2 (FrA.of hp) (k3.upd gD3 (fun u e => by rw [hD3] at e; cases e; rfl) aw) (((c1.trans c2).trans c3).upd (FrA.of hp)) upd_same gD3 rfl (.cons r2 .nil)
/-! ### a list, some times over -/
def repD : D → D → M (List D)
  | .lst l, .int k => M.bnd (M.req (0 ≤ k ∧ k ≤ 1000 ∧ l.length ≤ 100)) fun _ => M.ret (List.replicate k.toNat l).flatten
  | _, _ => M.fail
theorem repD_go (l : List D) (k : Int) : repD (.lst l) (.int k) = M.bnd (M.req (0 ≤ k ∧ k ≤ 1000 ∧ l.length ≤ 100)) fun _ => M.ret (List.replicate k.toNat l).flatten := rfl
theorem rep_of {G : Hp} {xs : List V} {ds : List D} (r : RpA S B G xs ds) : ∀ n : Nat, RpA S B G (List.replicate n xs).flatten (List.replicate n ds).flatten
  | 0 => .nil
  | n + 1 => by
    rw [List.replicate_succ, List.replicate_succ, List.flatten_cons, List.flatten_cons]
    exact r.append (rep_of r n)
theorem r_rep : R2L S rRep repD := fun B H G x y d e Q k rx ry h => by
  unfold repD at h
  split at h
  · obtain ⟨⟨k0, k1, hl⟩, h⟩ := h
    cases rx with
    | lst ha hr =>
      cases ry
      rename_i kk _ xs
      refine ⟨_, _, xs, rfl, rfl, k.sub _ _ ha, by omega, by omega, ?_, fun p hp => Rs2.lay k h (rep_of hr _) hp⟩
      have e := hr.length
      have : xs.length * kk.toNat ≤ 100 * 1000 := Nat.mul_le_mul (by omega) (by omega)
      exact Nat.le_trans this (by decide)
  · exact h.elim
/-! ### while, by what goes down by one -/
theorem while_run {mc : Env → M Bool} {g : Ev → M Ou} {P : Ou → Prop} (I : Nat → Ev → Prop) (h0 : ∀ ρ, I 0 ρ → (mc (peek ρ)).run fun b => b = false ∧ P (.nx ρ)) (hs : ∀ m ρ, I (m + 1) ρ → (mc (peek ρ)).run fun b => if b = true then (g ρ).run fun o => ∃ ρ', o = .nx ρ' ∧ I m ρ' else P (.nx ρ)) : ∀ m ρ, I m ρ → (M.some' fun n => whileM mc g n ρ).run P := by
  have key : ∀ m ρ, I m ρ → (whileM mc g (m + 1) ρ).run P := by
    intro m
    induction m with
    | zero =>
      intro ρ hi
      refine (mc (peek ρ)).mono (fun b hb => ?_) (h0 ρ hi)
      rw [hb.1]
      exact hb.2
    | succ m ih =>
      intro ρ hi
      refine (mc (peek ρ)).mono (fun b hb => ?_) (hs m ρ hi)
      cases b with
      | false => exact hb
      | true =>
        rw [if_pos rfl] at hb
        show (M.bnd (g ρ) _).run P
        refine (g ρ).mono (fun o ⟨ρ', e, h⟩ => ?_) hb
        subst e
        exact ih ρ' h
  exact fun m ρ hi => ⟨m + 1, key m ρ hi⟩
end Dv
namespace Dv
open PySem PySem.Spec PyProof.Rows L2 Sg
variable {S : Base} {B : Bo S} {X : XK}
/-! ### a new list, or a refusal -/
inductive Ry where
  | ok (ds : List D) | er (x : Exn)
def RsY (S : Base) (B : Bo S) (H G : Hp) (Q : VK) (X : XK) : Ry → Prop
  | .ok ds => Rs2 S B H G Q ds
  | .er x => RsE B H G X x
theorem RsY.after {H G H1 G1 : Hp} {Q : VK} {r : Ry} (c : Ch B H G H1 G1) (h : RsY S B H G Q X r) : RsY S B H1 G1 Q X r := by
  cases r with
  | ok d => exact Rs2.after c h
  | er x => exact RsE.after c h
def spY (S : Base) (f : List D → M Ry) : Sp := fun vs H Q X => ∃ B G ds, Ok B H G ∧ RpA S B G vs ds ∧ (f ds).run (RsY S B H G Q X)
def okY (ρ : Ev) (i : Nat) : Ry → M Ou
  | .ok ds => M.ret (.nx (ρ.set i (some (.o ds))))
  | .er _ => M.fail
theorem okY_go (ρ : Ev) (i : Nat) (ds : List D) : okY ρ i (.ok ds) = M.ret (.nx (ρ.set i (some (.o ds)))) := rfl
/-- x = f(..), which does not refuse -/
theorem sv_asgY {f : List D → M Ry} {E : XK} {i : Nat} {t : TA} {m : Env → M (List D)} (h : EvA S t m) : SvD S X (tAsg (tCall (spY S f) [] E t) (gName i)) (fun ρ => M.bnd (m (mask ρ)) fun l => M.bnd (f l) (okY ρ i)) := fun B H0 G0 σ H ρ En ⟨G, A, r⟩ q =>
  h B σ H G (mask ρ) _ r.ok r.mask ((m (mask ρ)).mono (fun l hl vs H1 G1 k1 c1 r1 => ⟨B, G1, l, k1, by rw [List.append_nil]; exact r1, (f l).mono (fun y hy => by
    cases y with
    | er x => exact hy.elim
    | ok ds =>
      refine fun p xs H2 G2 n k2 c2 h2 g2 r2 => ?_
      have r' := (r.step k1 c1)
      have r'' := r'.step k2 c2
      exact (show ∀ σ H, Rs S B H0 G0 σ H (ρ.set i (some (.o ds))) → En.nx σ H from hy) _ _ ⟨G2, _, r''.own (s := .o ds) rfl (r'.ch.fr _ n) h2 g2 r2 (fun j t e w z => by
        obtain ⟨_, _, _, o, ho, hw⟩ := r'.ow j t e w
        exact n.ne ho (plainO.nt hw.pl) z) i⟩) hl⟩) q)
def toX : Ry → M Rx
  | .ok ds => M.ret (.ok (.lst ds))
  | .er x => M.ret (.er x)
theorem toX_ok (ds : List D) : toX (.ok ds) = M.ret (.ok (.lst ds)) := rfl
theorem toX_er (x : Exn) : toX (.er x) = M.ret (.er x) := rfl
theorem ex_callY {f : List D → M Ry} {t : TA} {m : Env → M (List D)} (h : EvA S t m) : EvX S (fun E => tCall (spY S f) [] E t) (fun ρ => M.bnd (m ρ) fun l => M.bnd (f l) toX) := fun B σ H G ρ Q X k er q =>
  h B σ H G ρ _ k er ((m ρ).mono (fun l hl vs H1 G1 k1 c1 r1 => ⟨B, G1, l, k1, by rw [List.append_nil]; exact r1, (f l).mono (fun y hy => by
    cases y with
    | er x => exact RsE.after c1 hy
    | ok ds => exact Rs1.frz k1 (Rs1.after c1 (show Rs1 S B H G Q (.lst ds) from hy))) hl⟩) q)
theorem ex_callYN {f : List D → M Ry} {n k' : Nat} {t tk : TA} {m mk : Env → M (List D)} (h : EvA S t m) (hk : EvA S tk mk) : EvX S (fun E => tCallN n k' (spY S f) (fun vs zs => vs ++ zs) E t tk) (fun ρ => M.bnd (m ρ) fun l => M.bnd (mk ρ) fun z => M.bnd (M.req (l.length = n ∧ z.length = k')) fun _ => M.bnd (f (l ++ z)) toX) := fun B σ H G ρ Q X k er q =>
  h B σ H G ρ _ k er ((m ρ).mono (fun l hl vs H1 G1 k1 c1 r1 => hk B σ H1 G1 ρ _ k1 (er.mono c1.ext) ((mk ρ).mono (fun z hz zs H2 G2 k2 c2 r2 => ⟨by rw [r1.length]; exact hz.1.1, by rw [r2.length]; exact hz.1.2, B, G2, _, k2, (r1.mono c2.ext).append r2, (f _).mono (fun y hy => by
    cases y with
    | er x => exact RsE.after (c1.trans c2) hy
    | ok ds => exact Rs1.frz k2 (Rs1.after (c1.trans c2) (show Rs1 S B H G Q (.lst ds) from hy))) hz.2⟩) hl)) q)
def outY (P : Ry → Prop) : Ou → Prop
  | .rl l => P (.ok l)
  | .er x => P (.er x)
  | _ => False
theorem outY_rl (P : Ry → Prop) (l : List D) : outY P (.rl l) = P (.ok l) := rfl
theorem outY_er (P : Ry → Prop) (x : Exn) : outY P (.er x) = P (.er x) := rfl
theorem run_Y {N : List Str} {t : TS} {g : Ev → M Ou} {f : List D → M Ry} (h : SvD S X t g) (ref : ∀ ds P, (f ds).run P → (g (startE N.length ds)).run (outY P)) {vs : List V} {H : Hp} {Q : VK} (sp : spY S f vs H Q X) : t { nx := fun _ H' => Q .non H', rt := Q } (L2.start N vs) H := by
  obtain ⟨B, G, ds, k, r, q⟩ := sp
  refine h B H G _ H _ _ (start_rs k r) (M.mono _ (fun o ho => ?_) (ref ds _ q))
  cases o with
  | rl l => exact fun p xs H' G' a k' c b d r' => (show Rs2 S B H G Q l from ho) p xs H' G' a k' c b d r'
  | er x => exact ho
  | nx ρ => exact ho.elim
  | rt d => exact ho.elim
  | bk ρ => exact ho.elim
  | ct ρ => exact ho.elim
end Dv
namespace Dv
open PySem PySem.Spec PyProof.Rows L2 Sg
variable {S : Base} {B : Bo S} {X : XK}
/-! ### whole numbers within a tuple; a part of a tuple -/
theorem dv_inS {Y : Cx} {K : PySem.W.Frag} (h : Y.K = K) : OpR Y (compareOp .In) (rIn K false) := by subst h; exact op_in_seq
theorem rp_intsV {G : Hp} : ∀ {js : List Int} {vs : List V}, RpA S B G vs (js.map D.int) → vs = js.map V.int
  | [], _, h => by cases h; rfl
  | j :: js, _, h => by
    cases h with
    | cons a r =>
      cases a
      rw [rp_intsV r]
      rfl
def inT : D → D → M D
  | .int i, .tup l => M.bnd (M.choose fun js : List Int => l = js.map D.int) fun js => M.ret (.bl (decide (i ∈ js)))
  | _, _ => M.fail
theorem inT_go (i : Int) (l : List D) : inT (.int i) (.tup l) = M.bnd (M.choose fun js : List Int => l = js.map D.int) fun js => M.ret (.bl (decide (i ∈ js))) := rfl
theorem inV_ints (i : Int) : ∀ js : List Int, inV (.int i) (js.map V.int) = decide (i ∈ js)
  | [] => rfl
  | j :: js => by
    have := inV_ints i js
    unfold inV at this ⊢
    rw [List.map_cons, List.any_cons, this]
    have e : eqV (.int j) (.int i) = decide (j = i) := rfl
    rw [e, Bool.eq_iff_iff]
    simp only [Bool.or_eq_true, decide_eq_true_eq, List.mem_cons]
    constructor
    · rintro (h | h)
      · exact .inl h.symm
      · exact .inr h
    · rintro (h | h)
      · exact .inl h.symm
      · exact .inr h
theorem flat_ints : ∀ js : List Int, (js.map V.int).all flatV = true
  | [] => rfl
  | j :: js => by
    rw [List.map_cons, List.all_cons, flat_ints js]
    rfl
theorem r_inT : R2D S (rIn S.K false) inT := fun B H G x y d e Q k rx ry h => by
  unfold inT at h
  split at h
  · obtain ⟨js, rfl, h⟩ := h
    cases rx
    cases ry with
    | tup ha hr =>
      obtain rfl := rp_intsV hr
      refine ⟨_, _, rfl, .inr (sub_tup k.sub ha), rfl, flat_ints js, ?_⟩
      rw [inV_ints]
      exact Rs1.now k h (.bl _)
  · exact h.elim
theorem ed_slT {te : TE} {tl th : TO} {me : Env → M D} {ml mh : Env → M (Option Int)} (h : EvD S te me) (h1 : EvO S tl ml) (h2 : EvO S th mh) : EvD S (tSl (rSlT S.K) te tl th) (fun ρ => M.bnd (me ρ) fun d => M.bnd (ml ρ) fun lo => M.bnd (mh ρ) fun hi => M.bnd (asT d) fun l => M.bnd (M.req (¬ (HT.sIx l.length 0 lo = 0 ∧ HT.sIx l.length l.length hi = l.length))) fun _ => M.ret (.tup (cutD l lo hi))) := fun B σ H G ρ Q k er q =>
  h B σ H G ρ _ k er ((me ρ).mono (fun d hd v H1 G1 k1 c1 r1 => h1 B σ H1 G1 ρ _ k1 (er.mono c1.ext) ((ml ρ).mono (fun lo hlo H2 G2 k2 c2 => h2 B σ H2 G2 ρ _ k2 (er.mono (c1.trans c2).ext) ((mh ρ).mono (fun hi hhi H3 G3 k3 c3 => by
    cases r1.mono (c2.trans c3).ext <;> first
      | exact hhi.elim
      | (rename_i a xs l ha hr
         have hl := hr.length
         refine ⟨_, _, rfl, sub_tup k3.sub ha, by rw [hl]; exact hhi.1, fun p hp => ?_⟩
         obtain ⟨k4, c4⟩ := k3.put hp (.tup (cutV xs lo hi)) (fun _ z => nomatch z)
         exact (show Rs1 S B H G Q (.tup (cutD l lo hi)) from hhi.2) _ _ _ k4 (((c1.trans c2).trans c3).trans c4) (.tup (SqT.of upd_same) ((hr.cut lo hi).mono c4.ext)))) hlo)) hd)) q)
end Dv
namespace Dv
open PySem PySem.Spec PyProof.Rows L2 Sg
variable {S : Base} {B : Bo S} {X : XK}
/-! ### texts: many times over, one behind another, parts, split, their signs -/
def timesS (z : Str) (k : Int) : Str := ⟨(List.replicate k.toNat z.cps).foldl (· ++ ·) #[]⟩
theorem rep_size (a : Array Nat) : ∀ (n : Nat) (acc : Array Nat), ((List.replicate n a).foldl (· ++ ·) acc).size = acc.size + n * a.size
  | 0, acc => by simp
  | n + 1, acc => by
    rw [List.replicate_succ, List.foldl_cons, rep_size a n, Array.size_append, Nat.succ_mul]
    omega
def rMulS : R2 := fun x y H Q => ∃ z k, x = .str z ∧ y = .int k ∧ 2 ≤ k ∧ k ≤ 1000 ∧ 1 ≤ z.length ∧ z.length ≤ 1000 ∧ Q (.str (timesS z k)) H
theorem op_mulS {Y : Cx} : OpR Y (binaryOp .Mult) rMulS := by
  intro pins s σ H x y v u Q I rx ry h
  obtain ⟨z, k, rfl, rfl, k1, k2, z1, z2, q⟩ := h
  obtain ⟨t, rfl⟩ := rx
  obtain ⟨t', rfl⟩ := ry
  have h1 : ¬ k < 1 := by omega
  have h2 : (k == 1 || z.length == 0) = false := by
    rw [Bool.or_eq_false_iff]
    exact ⟨by rw [beq_eq_false_iff_ne]; omega, by rw [beq_eq_false_iff_ne]; omega⟩
  have hz : z.length * k.toNat ≤ 1000 * 1000 := Nat.mul_le_mul z2 (by omega)
  refine PySem.P.mul_str ?_ (fun _ _ => ?_) (fun _ _ => ?_) ?_
  · rw [decide_eq_false (by omega), decide_eq_false (by omega)]
    rfl
  · have : (1000 : Int) ≤ (2 ^ 63 - 1) / k := by
      rw [Int.le_ediv_iff_mul_le (by omega)]
      omega
    omega
  · show decide (z.length * k.toNat > sizeLine) = false
    rw [sizeLine_eq]
    exact decide_eq_false (by omega)
  · rw [if_neg h1, if_neg (by rw [h2]; exact Bool.false_ne_true)]
    refine ⟨?_, .str (timesS z k), H, I.tok _, ⟨_, rfl⟩, q⟩
    show ((List.replicate k.toNat z.cps).foldl (· ++ ·) #[]).size ≤ sizeLine
    rw [rep_size, sizeLine_eq]
    have e : z.cps.size = z.length := rfl
    rw [e, Array.size_empty, Nat.mul_comm]
    omega
def mulS : D → D → M D
  | .str z, .int k => M.bnd (M.req (2 ≤ k ∧ k ≤ 1000 ∧ 1 ≤ z.length ∧ z.length ≤ 1000)) fun _ => M.ret (.str (timesS z k))
  | _, _ => M.fail
theorem mulS_go (z : Str) (k : Int) : mulS (.str z) (.int k) = M.bnd (M.req (2 ≤ k ∧ k ≤ 1000 ∧ 1 ≤ z.length ∧ z.length ≤ 1000)) fun _ => M.ret (.str (timesS z k)) := rfl
theorem r_mulS : R2D S rMulS mulS := fun B H G x y d e Q k rx ry h => by
  unfold mulS at h
  split at h
  · obtain ⟨⟨h1, h2, h3, h4⟩, h⟩ := h
    cases rx
    cases ry
    exact ⟨_, _, rfl, rfl, h1, h2, h3, h4, Rs1.now k h (.str _)⟩
  · exact h.elim
def rAddS : R2 := fun x y H Q => ∃ i j, x = .str i ∧ y = .str j ∧ i.length + j.length ≤ sizeLine ∧ Q (.str (i ++ j)) H
theorem op_addS {Y : Cx} : OpR Y (binaryOp .Add) rAddS := op_add_str
def addS : D → D → M D
  | .str z, .str y => M.bnd (M.req (z.length + y.length ≤ 100000)) fun _ => M.ret (.str (z ++ y))
  | _, _ => M.fail
theorem addS_go (z y : Str) : addS (.str z) (.str y) = M.bnd (M.req (z.length + y.length ≤ 100000)) fun _ => M.ret (.str (z ++ y)) := rfl
theorem r_addS : R2D S rAddS addS := fun B H G x y d e Q k rx ry h => by
  unfold addS at h
  split at h
  · cases rx
    cases ry
    exact ⟨_, _, rfl, rfl, small h.1, Rs1.now k h.2 (.str _)⟩
  · exact h.elim
def asS : D → M Str
  | .str z => M.ret z
  | _ => M.fail
theorem asS_str (z : Str) : asS (.str z) = M.ret z := rfl
theorem ed_slS {te : TE} {tl th : TO} {me : Env → M D} {ml mh : Env → M (Option Int)} (h : EvD S te me) (h1 : EvO S tl ml) (h2 : EvO S th mh) : EvD S (tSl rSlS te tl th) (fun ρ => M.bnd (me ρ) fun d => M.bnd (ml ρ) fun lo => M.bnd (mh ρ) fun hi => M.bnd (asS d) fun z => M.bnd (M.req (z.length ≤ 100000)) fun _ => M.ret (.str (cutS z lo hi))) := fun B σ H G ρ Q k er q =>
  h B σ H G ρ _ k er ((me ρ).mono (fun d hd v H1 G1 k1 c1 r1 => h1 B σ H1 G1 ρ _ k1 (er.mono c1.ext) ((ml ρ).mono (fun lo hlo H2 G2 k2 c2 => h2 B σ H2 G2 ρ _ k2 (er.mono (c1.trans c2).ext) ((mh ρ).mono (fun hi hhi H3 G3 k3 c3 => by
    cases r1 <;> first
      | exact hhi.elim
      | exact ⟨_, rfl, small hhi.1, (show Rs1 S B H G Q (.str _) from hhi.2) _ H3 G3 k3 ((c1.trans c2).trans c3) (.str _)⟩) hlo)) hd)) q)
theorem dv_listS {Y : Cx} (hc : Y.calm = true) : CallR Y (.type "list") rListS := cr_listS hc
def signsD (z : Str) : List D := z.cps.toList.map fun c => D.str ⟨#[c]⟩
theorem rp_signs {G : Hp} : ∀ l : List Nat, RpA S B G (l.map fun c => V.str ⟨#[c]⟩) (l.map fun c => D.str ⟨#[c]⟩)
  | [] => .nil
  | _ :: l => .cons (.str _) (rp_signs l)
def listS : List D → M (List D)
  | [.str z] => M.bnd (M.req (z.length ≤ 1000)) fun _ => M.ret (signsD z)
  | _ => M.fail
theorem listS_go (z : Str) : listS [.str z] = M.bnd (M.req (z.length ≤ 1000)) fun _ => M.ret (signsD z) := rfl
theorem r_listS : RCL S rListS listS := fun B H G vs ds Q k r h => by
  unfold listS at h
  split at h
  · cases r with
    | cons r1 r2 =>
      cases r2
      cases r1
      exact ⟨_, rfl, h.1, fun p hp => Rs2.lay k h.2 (rp_signs _) hp⟩
  · exact h.elim
def splitM : D → D → M (List D)
  | .str z, .str y => M.bnd (M.req ((y.length == 0) = false ∧ z.length ≤ 10000)) fun _ => M.ret ((Txt.split z y).map D.str)
  | _, _ => M.fail
theorem splitM_go (z y : Str) : splitM (.str z) (.str y) = M.bnd (M.req ((y.length == 0) = false ∧ z.length ≤ 10000)) fun _ => M.ret ((Txt.split z y).map D.str) := rfl
theorem rp_strs {G : Hp} : ∀ l : List Str, RpA S B G (l.map V.str) (l.map D.str)
  | [] => .nil
  | _ :: l => .cons (.str _) (rp_strs l)
theorem el_split {to te : TE} {mo me : Env → M D} (h : EvD S to mo) (h1 : EvD S te me) : EvL S (tM1 rSplitAny to te) (fun ρ => M.bnd (mo ρ) fun d => M.bnd (asS d) fun z => M.bnd (me ρ) fun e => splitM (.str z) e) := fun B σ H G ρ Q k er q =>
  h B σ H G ρ _ k er ((mo ρ).mono (fun d hd v H1 G1 k1 c1 r1 => by
    cases r1 <;> first
      | exact hd.elim
      | (rename_i z
         refine ⟨⟨z, rfl⟩, h1 B σ H1 G1 ρ _ k1 (er.mono c1.ext) ((me ρ).mono (fun e he v2 H2 G2 k2 c2 r2 => ?_) hd)⟩
         cases r2 <;> first
           | exact he.elim
           | (rename_i y
              refine .inl ⟨z, y, rfl, rfl, he.1.1, by rw [sizeLine_eq]; have := he.1.2; omega, fun p hp => ?_⟩
              exact Rs2.lay k2 (Rs2.after (c1.trans c2) he.2) (rp_strs _) hp))) q)
/-- x += e, numbers -/
theorem sv_augI {g : Int → Int → Int} {i : Nat} {te : TE} {m : Env → M D} (h : EvD S te m) : SvD S X (tAug i te (ipI g)) (fun ρ => M.bnd (M.opt ((mask ρ)[i]?.join)) fun d => M.bnd (asI d) fun a => M.bnd (m (mask ρ)) fun e => M.bnd (asI e) fun b => M.ret (.nx (ρ.set i (some (.f (.int (g a b))))))) := fun B H0 G0 σ H ρ E ⟨G, A, r⟩ q => by
  obtain ⟨d, hd, q⟩ := M.run_opt q
  have e' : (mask ρ)[i]? = some (some d) := by
    cases h1 : (mask ρ)[i]? with
    | none => rw [h1] at hd; cases hd
    | some o => rw [h1] at hd; rw [show o = some d from hd]
  obtain ⟨v, h1, h2⟩ := r.mask.get i d e'
  refine ⟨v, h1, ?_⟩
  cases h2 <;> first
    | exact q.elim
    | (rename_i a
       refine h B σ H G (mask ρ) _ r.ok r.mask ((m (mask ρ)).mono (fun e he v2 H2 G2 k2 c2 r2 => ?_) q)
       cases r2 <;> first
         | exact he.elim
         | (rename_i b
            exact ⟨a, b, rfl, rfl, (show ∀ σ H, Rs S B H0 G0 σ H (ρ.set i (some (.f (.int (g a b))))) → E.nx σ H from he) _ _ ⟨G2, A, (r.step k2 c2).set (.int _) i⟩⟩))
end Dv
namespace Dv
open PySem PySem.Spec PyProof.Rows L2 Sg
variable {S : Base} {B : Bo S} {X : XK}
/-! ### a comprehension with two walks -/
def M.cat {α β : Type} (f : α → M (List β)) : List α → M (List β)
  | [] => M.ret []
  | a :: l => M.bnd (f a) fun xs => M.bnd (M.cat f l) fun ys => M.ret (xs ++ ys)
def lcF2 (b : D → Env → M Env) (mt : Env → M Bool) (mi1 : Env → M (List D)) (b1 : D → Env → M Env) (mt1 : Env → M Bool) (me : Env → M D) (vs1 : List Nat) (ρ : Env) (d : D) : M (List D) :=
  M.bnd (b d ρ) fun ρ' => M.bnd (mt ρ') fun t => if t = true then M.bnd (mi1 ρ') fun es => M.bnd (M.req (es.length ≤ 300)) fun _ => M.sel (lcF b1 mt1 me (wipeE ρ' vs1)) es else M.ret []
theorem lcF2_go (b : D → Env → M Env) (mt : Env → M Bool) (mi1 : Env → M (List D)) (b1 : D → Env → M Env) (mt1 : Env → M Bool) (me : Env → M D) (vs1 : List Nat) (ρ : Env) (d : D) : lcF2 b mt mi1 b1 mt1 me vs1 ρ d =
  M.bnd (b d ρ) fun ρ' => M.bnd (mt ρ') fun t => if t = true then M.bnd (mi1 ρ') fun es => M.bnd (M.req (es.length ≤ 300)) fun _ => M.sel (lcF b1 mt1 me (wipeE ρ' vs1)) es else M.ret [] := rfl
theorem el_lc2 {wi wi1 : TI} {g g1 : TG} {tt tt1 : TT} {te : TE} {vs vs1 js js1 : List Nat} {mi mi1 : Env → M (List D)} {b b1 : D → Env → M Env} {mt mt1 : Env → M Bool} {me : Env → M D} (hj : ∀ j ∈ js, j ∈ vs) (hj1 : ∀ j ∈ js1, j ∈ vs1) (hi : EiD S wi mi) (hg : EgD S g b js) (ht : EvT S tt mt) (hi1 : EiD S wi1 mi1) (hg1 : EgD S g1 b1 js1) (ht1 : EvT S tt1 mt1) (he : EvD S te me) :
    EvL S (tLc2 wi g tt wi1 g1 tt1 te vs vs1) (fun ρ => M.bnd (mi ρ) fun ds => M.bnd (M.req (ds.length ≤ 300)) fun _ => M.cat (lcF2 b mt mi1 b1 mt1 me vs1 (wipeE ρ vs)) ds) := fun B σ H G ρ Q k er q =>
  hi B σ H G ρ _ k er ((mi ρ).mono (fun ds hd J H1 G1 k1 c1 wk Dl nD => by
    have nDH : FrA H Dl := c1.fr _ (FrA.of nD)
    have nb : ∀ q, B.bq ≠ some (Dl, q) := fun q e => k.ne e nDH rfl
    have aw := k.away nDH
    refine ⟨fun i m L => m = ds.length - i ∧ i ≤ ds.length ∧ ∃ GL acc done, Ok B L GL ∧ Ch B H1 G1 L GL ∧ L Dl = some (.lst acc) ∧ GL Dl = none ∧ RpA S B GL acc done ∧ done.length ≤ 300 * i ∧ (M.cat (lcF2 b mt mi1 b1 mt1 me vs1 (wipeE ρ vs)) (ds.drop i)).run (fun rest => Rs2 S B H G Q (done ++ rest)), ⟨_, rfl, Nat.zero_le _, ?_⟩, ?_⟩
    · obtain ⟨k2, c2⟩ := k1.lay nD (.lst [])
      exact ⟨G1, [], [], k2, c2, upd_same, k1.sub.free nD, .nil, Nat.zero_le _, hd.2⟩
    · rintro i m L ⟨rfl, hi', GL, acc, done, kL, cL, hD, gD, rD, hdl, hr⟩
      rcases Nat.lt_or_ge i ds.length with hlt | hge
      · refine .inr ⟨wk.go i L GL kL cL.ext hlt, fun L' => (i + 1) ≤ ds.length ∧ ∃ GL acc done, Ok B L' GL ∧ Ch B H1 G1 L' GL ∧ L' Dl = some (.lst acc) ∧ GL Dl = none ∧ RpA S B GL acc done ∧ done.length ≤ 300 * (i + 1) ∧ (M.cat (lcF2 b mt mi1 b1 mt1 me vs1 (wipeE ρ vs)) (ds.drop (i + 1))).run (fun rest => Rs2 S B H G Q (done ++ rest)), fun L' hL => ⟨_, by omega, rfl, hL.1, hL.2⟩, fun x L' y => ?_⟩
        obtain ⟨GY, kY, cY, rY⟩ := wk.yl i L GL x L' kL cL.ext hlt y
        obtain ⟨hDY, gDY⟩ := cY.mine hD gD rfl nb
        have eD : ds.drop i = ds[i] :: ds.drop (i + 1) := List.drop_eq_getElem_cons hlt
        rw [eD] at hr
        have cHY := cL.trans cY
        refine hg B (wipe σ vs) L' GY (wipeE ρ vs) x ds[i] _ kY ((er.mono (c1.trans cHY).ext).wipe vs) rY (M.mono _ (fun ρ' hρ σ' er' ag => ?_) hr)
        refine ⟨by rw [ag.wipe hj, wipe_idem], ?_⟩
        refine ht B σ' L' GY ρ' _ kY er' (M.mono _ (fun t htt L3 G3 k3 c3 => ?_) hρ)
        obtain ⟨hD3, gD3⟩ := c3.mine hDY gDY rfl nb
        cases t with
        | false => exact ⟨hlt, G3, acc, done, k3, cHY.trans c3, hD3, gD3, rD.mono (cY.trans c3).ext, by omega, htt⟩
        | true =>
          refine hi1 B σ' L3 G3 ρ' _ k3 (er'.mono c3.ext) (M.mono _ (fun es hes J1 H4 G4 k4 c4 wk1 => ?_) htt)
          obtain ⟨hD4, gD4⟩ := c4.mine hD3 gD3 rfl nb
          have cH4 := (cHY.trans c3).trans c4
          obtain ⟨hel, hes⟩ := hes
          refine ⟨fun j n L => n = es.length - j ∧ j ≤ es.length ∧ ∃ GL acc done, Ok B L GL ∧ Dv.Sub G4 GL ∧ Ch B H1 G1 L GL ∧ L Dl = some (.lst acc) ∧ GL Dl = none ∧ RpA S B GL acc done ∧ done.length ≤ 300 * i + j ∧ (M.sel (lcF b1 mt1 me (wipeE ρ' vs1)) (es.drop j)).run (fun rest => (M.cat (lcF2 b mt mi1 b1 mt1 me vs1 (wipeE ρ vs)) (ds.drop (i + 1))).run (fun rest2 => Rs2 S B H G Q (done ++ (rest ++ rest2)))), ⟨_, rfl, Nat.zero_le _, G4, acc, done, k4, Dv.Sub.refl G4, cH4, hD4, gD4, rD.mono ((cY.trans c3).trans c4).ext, by omega, hes⟩, ?_⟩
          rintro j n M1 ⟨rfl, hjl, GM, acc1, done1, kM, cM, cM1, hDM, gDM, rDM, hdl1, hrM⟩
          rcases Nat.lt_or_ge j es.length with jlt | jge
          · refine .inr ⟨wk1.go j M1 GM kM cM jlt, fun L' => (j + 1) ≤ es.length ∧ ∃ GL acc done, Ok B L' GL ∧ Dv.Sub G4 GL ∧ Ch B H1 G1 L' GL ∧ L' Dl = some (.lst acc) ∧ GL Dl = none ∧ RpA S B GL acc done ∧ done.length ≤ 300 * i + (j + 1) ∧ (M.sel (lcF b1 mt1 me (wipeE ρ' vs1)) (es.drop (j + 1))).run (fun rest => (M.cat (lcF2 b mt mi1 b1 mt1 me vs1 (wipeE ρ vs)) (ds.drop (i + 1))).run (fun rest2 => Rs2 S B H G Q (done ++ (rest ++ rest2)))), fun L' hL => ⟨_, by omega, rfl, hL.1, hL.2⟩, fun x1 L5 y1 => ?_⟩
            obtain ⟨G5, k5, c5, r5⟩ := wk1.yl j M1 GM x1 L5 kM cM jlt y1
            obtain ⟨hD5, gD5⟩ := c5.mine hDM gDM rfl nb
            have eE : es.drop j = es[j] :: es.drop (j + 1) := List.drop_eq_getElem_cons jlt
            rw [eE] at hrM
            have c45 := cM.trans c5.ext
            refine hg1 B (wipe σ' vs1) L5 G5 (wipeE ρ' vs1) x1 es[j] _ k5 ((er'.mono ((c3.trans c4).ext.trans c45)).wipe vs1) r5 (M.mono _ (fun ρ2 hρ2 σ2 er2 ag2 => ?_) hrM)
            refine ⟨by rw [ag2.wipe hj1, wipe_idem], ?_⟩
            refine ht1 B σ2 L5 G5 ρ2 _ k5 er2 (M.mono _ (fun t2 htt2 L6 G6 k6 c6 => ?_) hρ2)
            obtain ⟨hD6, gD6⟩ := c6.mine hD5 gD5 rfl nb
            cases t2 with
            | false => exact ⟨jlt, G6, acc1, done1, k6, c45.trans c6.ext, (cM1.trans c5).trans c6, hD6, gD6, rDM.mono (c5.trans c6).ext, by omega, htt2⟩
            | true =>
              refine he B σ2 L6 G6 ρ2 _ k6 (er2.mono c6.ext) (M.mono _ (fun y' hy v7 L7 G7 k7 c7 r7 => ?_) htt2)
              obtain ⟨hD7, gD7⟩ := c7.mine hD6 gD6 rfl nb
              have ra := rDM.mono ((c5.trans c6).trans c7).ext
              refine ⟨acc1, hD7, ?_, jlt, G7, acc1 ++ [v7], done1 ++ [y'], k7.upd gD7 (fun u e => by rw [hD7] at e; cases e; rfl) aw, (c45.trans c6.ext).trans c7.ext, ((cM1.trans c5).trans (c6.trans c7)).upd (FrA.of nD), upd_same, gD7, ra.append (.cons r7 .nil), by rw [List.length_append]; exact Nat.succ_le_succ hdl1, ?_⟩
              · rw [ra.length]
                have h3 := hd.1
                have : done1.length < 100000 := by
                  have : 300 * i + j < 300 * 300 + 300 := by
                    have : 300 * i ≤ 300 * 300 := Nat.mul_le_mul_left _ (by omega)
                    omega
                  omega
                exact Nat.lt_of_lt_of_le this (by decide)
              · refine M.mono _ (fun rest hrest => ?_) hy
                refine M.mono _ (fun rest2 h2 => ?_) hrest
                rw [List.append_assoc]
                exact h2
          · obtain rfl : j = es.length := by omega
            refine .inl ⟨wk1.st M1 GM kM cM, hlt, GM, acc1, done1, kM, cM1, hDM, gDM, rDM, by omega, ?_⟩
            rw [List.drop_length] at hrM
            exact hrM
      · obtain rfl : i = ds.length := by omega
        refine .inl ⟨wk.st L GL kL cL.ext, ?_⟩
        rw [List.drop_length] at hr
        have h9 : Rs2 S B H G Q (done ++ []) := hr
        rw [List.append_nil] at h9
        exact h9 Dl acc L GL nDH kL (c1.trans cL) hD gD rD) q)
end Dv
/-! Sorting choices: tuples of ties, all of one length. -/
namespace Sg
open PySem PySem.Spec PyProof.Rows L2
/-- a tie by one number -/
def tcN : List Int → Int
  | [a, b, c] => a * 16384 + b * 128 + c
  | [a, b] => a * 16384 + b * 128
  | _ => 0
def tc (k : List Key) : Int := tcN (k.map numK)
/-- a tie: an arrow or a mark -/
def CK (k : List Key) : Prop := (∃ (c : Nat) (x y : Int), k = [.inr ⟨#[c]⟩, .inl x, .inl y] ∧ 97 ≤ c ∧ c ≤ 99 ∧ 0 ≤ x ∧ x < 128 ∧ 0 ≤ y ∧ y < 128) ∨ ∃ (c : Nat) (x : Int), k = [.inr ⟨#[c]⟩, .inl x] ∧ 112 ≤ c ∧ c ≤ 114 ∧ 0 ≤ x ∧ x < 128
theorem num_c (c : Nat) : numK (.inr ⟨#[c]⟩) = (c : Int) := rfl
theorem tc_a (c : Nat) (x y : Int) : tc [.inr ⟨#[c]⟩, .inl x, .inl y] = (c : Int) * 16384 + x * 128 + y := rfl
theorem tc_m (c : Nat) (x : Int) : tc [.inr ⟨#[c]⟩, .inl x] = (c : Int) * 16384 + x * 128 := rfl
theorem tc_bd {k : List Key} (h : CK k) : 0 ≤ tc k ∧ tc k < 2097152 := by
  rcases h with ⟨c, x, y, rfl, h⟩ | ⟨c, x, rfl, h⟩
  · rw [tc_a]; omega
  · rw [tc_m]; omega
theorem tc_inj {k k' : List Key} (h : CK k) (h' : CK k') (e : tc k = tc k') : k = k' := by
  rcases h with ⟨c, x, y, rfl, h⟩ | ⟨c, x, rfl, h⟩ <;> rcases h' with ⟨c', x', y', rfl, h'⟩ | ⟨c', x', rfl, h'⟩
  · rw [tc_a, tc_a] at e
    obtain rfl : c = c' := by omega
    obtain rfl : x = x' := by omega
    obtain rfl : y = y' := by omega
    rfl
  · rw [tc_a, tc_m] at e
    omega
  · rw [tc_a, tc_m] at e
    omega
  · rw [tc_m, tc_m] at e
    obtain rfl : c = c' := by omega
    obtain rfl : x = x' := by omega
    rfl
/-- a choice by one number -/
def ccN : List Int → Int
  | [] => 0
  | t :: r => t * 2097152 ^ r.length + ccN r
def cc (ks : List (List Key)) : Int := ccN (ks.map tc)
theorem ccN_bd : ∀ {l : List Int}, (∀ t ∈ l, 0 ≤ t ∧ t < 2097152) → 0 ≤ ccN l ∧ ccN l < 2097152 ^ l.length
  | [], _ => ⟨Int.le_refl _, by show (0 : Int) < 2097152 ^ 0; decide⟩
  | t :: r, h => by
    obtain ⟨a, b⟩ := ccN_bd (l := r) fun x hx => h x (List.mem_cons_of_mem _ hx)
    obtain ⟨t0, t1⟩ := h t (List.mem_cons_self ..)
    have hp : (0 : Int) < 2097152 ^ r.length := Int.pow_pos (by decide)
    show 0 ≤ t * 2097152 ^ r.length + ccN r ∧ t * 2097152 ^ r.length + ccN r < 2097152 ^ (r.length + 1)
    rw [Int.pow_succ]
    generalize (2097152 : Int) ^ r.length = p at a b hp ⊢
    have e1 : 0 ≤ t * p := Int.mul_nonneg t0 (by omega)
    have e2 : t * p ≤ 2097151 * p := Int.mul_le_mul_of_nonneg_right (by omega) (by omega)
    constructor
    · omega
    · rw [Int.mul_comm p]
      omega
theorem ccN_lt {t t' : Int} {r r' : List Int} (hl : r.length = r'.length) (h : ∀ x ∈ r, 0 ≤ x ∧ x < 2097152) (h' : ∀ x ∈ r', 0 ≤ x ∧ x < 2097152) (lt : t < t') : ccN (t :: r) < ccN (t' :: r') := by
  obtain ⟨a, b⟩ := ccN_bd h
  obtain ⟨a', b'⟩ := ccN_bd h'
  show t * 2097152 ^ r.length + ccN r < t' * 2097152 ^ r'.length + ccN r'
  rw [← hl] at b' ⊢
  have hp : (0 : Int) < 2097152 ^ r.length := Int.pow_pos (by decide)
  generalize (2097152 : Int) ^ r.length = p at b b' hp ⊢
  have : (t + 1) * p ≤ t' * p := Int.mul_le_mul_of_nonneg_right (by omega) (by omega)
  rw [Int.add_mul, Int.one_mul] at this
  omega
theorem ccN_same {t : Int} {r r' : List Int} (hl : r.length = r'.length) : ccN (t :: r) < ccN (t :: r') ↔ ccN r < ccN r' := by
  show t * 2097152 ^ r.length + ccN r < t * 2097152 ^ r'.length + ccN r' ↔ _
  rw [hl]
  omega
def itemsOf (h : Heap) : Value → List Value
  | .ref a => match h.get? a with
    | some o => match o.data with
      | .seq xs _ => xs.toList
      | _ => []
    | none => []
  | _ => []
/-- a choice's number, read off the heap -/
def cvOf (h : Heap) (v : Value) : Int := ccN ((itemsOf h v).map fun x => tcN (numsOf h x))
section
variable {P : Program} {w : World} {A : Around} {E : Value → Shared → Prop} {s : Shared}
/-- a choice as it stands: a tuple at a, of the ties ks -/
structure ChAt (P : Program) (w : World) (h : Heap) (a : Addr) (ks : List TK) : Prop where
  ob : ∃ o xs n, h.get? a = some o ∧ o.cls = .type "tuple" ∧ o.data = .seq xs n ∧ xs.toList = refsV ks
  key : ∀ p ∈ ks, IsTupleKey (mixKind P w) h p.2 p.1
  ck : ∀ p ∈ ks, CK p.2
theorem ChAt.num {h : Heap} {a : Addr} {ks : List TK} (c : ChAt P w h a ks) : cvOf h (.ref a) = cc (ks.map (·.2)) := by
  obtain ⟨o, xs, n, ho, hc, hd, hx⟩ := c.ob
  unfold cvOf cc
  simp only [itemsOf, ho, hd, hx]
  congr 1
  rw [List.map_map, List.map_map]
  refine List.map_congr_left fun p hp => ?_
  show tcN (numsOf h (.ref p.1)) = tc p.2
  rw [nums_at (c.key p hp)]
  rfl
theorem ChAt.keep {h h' : Heap} {a : Addr} {ks : List TK} (c : ChAt P w h a ks) (k : ∀ b o, h.get? b = some o → o.cls = .type "tuple" → h'.get? b = some o) : ChAt P w h' a ks := by
  obtain ⟨o, xs, n, ho, hc, r⟩ := c.ob
  refine ⟨⟨o, xs, n, k _ _ ho hc, hc, r⟩, fun p hp => ?_, c.ck⟩
  obtain ⟨o, its, n, ho, hc, r⟩ := c.key p hp
  exact ⟨o, its, n, k _ _ ho hc, hc, r⟩
theorem items_tie {k : List Key} {vs : List Value} (h : ItemsAre (mixKind P w) k vs) (c : CK k) : (∃ (n : Nat) (x y : Int) (t u z : Tok), k = [.inr ⟨#[n]⟩, .inl x, .inl y] ∧ vs = [.str ⟨#[n]⟩ t, .int x u, .int y z]) ∨ ∃ (n : Nat) (x : Int) (t u : Tok), k = [.inr ⟨#[n]⟩, .inl x] ∧ vs = [.str ⟨#[n]⟩ t, .int x u] := by
  have one : ∀ {k0 : Key} {v : Value}, (mixKind P w).is k0 v = true → (∀ n, k0 = .inr ⟨#[n]⟩ → ∃ t, v = .str ⟨#[n]⟩ t) ∧ ∀ i, k0 = .inl i → ∃ t, v = .int i t := fun {k0 v} hh => by
    rcases is_shape hh with ⟨i, t, rfl, rfl⟩ | ⟨x, t, rfl, rfl⟩
    · exact ⟨(fun n e => by cases e), (fun j e => by cases e; exact ⟨t, rfl⟩)⟩
    · exact ⟨(fun n e => by cases e; exact ⟨t, rfl⟩), (fun j e => by cases e)⟩
  rcases c with ⟨n, x, y, rfl, _⟩ | ⟨n, x, rfl, _⟩
  · cases h with
    | cons h1 h => cases h with
      | cons h2 h => cases h with
        | cons h3 h =>
          cases h
          obtain ⟨t, rfl⟩ := (one h1).1 n rfl
          obtain ⟨u, rfl⟩ := (one h2).2 x rfl
          obtain ⟨z, rfl⟩ := (one h3).2 y rfl
          exact .inl ⟨n, x, y, t, u, z, rfl, rfl⟩
  · cases h with
    | cons h1 h => cases h with
      | cons h2 h =>
        cases h
        obtain ⟨t, rfl⟩ := (one h1).1 n rfl
        obtain ⟨u, rfl⟩ := (one h2).2 x rfl
        exact .inr ⟨n, x, t, u, rfl, rfl⟩
theorem rc_str (a b : Str) (t u : Tok) : Ob.RcOp .Lt A s (.str a t) (.str b u) (decide (a.cps.toList < b.cps.toList)) := fun prog w E Q h => PyProof.Rows.lt_str h
/-- two ties that are not one, by < -/
theorem tie_lt {a b : Addr} {k k' : List Key} {Q : Bool → Shared → Prop} (hu : A.units < cLine) (ha : IsTupleKey (mixKind P w) s.heap k a) (hb : IsTupleKey (mixKind P w) s.heap k' b) (c : CK k) (c' : CK k') (ne : k ≠ k') (h : Q (decide (tc k < tc k')) s) :
    wpAny (model P w) A (oneLt' false (.ref a) (.ref b)) Q E s := by
  obtain ⟨o, its, n, ho, hc, hd, hi⟩ := ha
  obtain ⟨o', its', n', ho', hc', hd', hi'⟩ := hb
  have ta : s.heap.IsTuple a its := ⟨o, ho, hc, n, hd⟩
  have tb : s.heap.IsTuple b its' := ⟨o', ho', hc', n', hd'⟩
  have eqs : ∀ (p q : Nat), ((⟨#[p]⟩ : Str) == ⟨#[q]⟩) = decide (p = q) := fun p q => by
    rw [Bool.eq_iff_iff, beq_iff_eq, decide_eq_true_eq]
    exact ⟨fun z => by injection z with z; injection z with z; injection z, fun z => by rw [z]⟩
  have eqi : ∀ (p q : Int), (p == q) = decide (p = q) := fun p q => by
    rw [Bool.eq_iff_iff, beq_iff_eq, decide_eq_true_eq]
  have fin : ∀ (e r : Nat → Bool), (∀ j (h1 : j < its.size) (h2 : j < its'.size), SeqAt.EqAt A.in1 s its[j] its'[j] (e j)) → (∀ j (h1 : j < its.size) (h2 : j < its'.size), e j = false → Ob.RcOp .Lt A.in1 s its[j] its'[j] (r j)) → Ob.lexAt e r (decide (its.size < its'.size)) 0 (min its.size its'.size) = decide (tc k < tc k') → wpAny (model P w) A (oneLt' false (.ref a) (.ref b)) Q E s := fun e r h1 h2 h3 => by
    refine PySem.W.kat_one _ _ ?_
    refine Ob.RcOp.tuples_lt ta tb hu h1 h2 P w E _ ?_
    rw [h3]
    exact h
  have nats : ∀ p q : Nat, decide (([p] : List Nat) < [q]) = decide (p < q) := fun p q => by
    rw [lt_one]
    exact decide_eq_decide.mpr Int.ofNat_lt
  rcases items_tie hi c with ⟨p, x, y, t, u, z, rfl, e1⟩ | ⟨p, x, t, u, rfl, e1⟩ <;> rcases items_tie hi' c' with ⟨p', x', y', t', u', z', rfl, e2⟩ | ⟨p', x', t', u', rfl, e2⟩
  · have i1 : its = #[.str ⟨#[p]⟩ t, .int x u, .int y z] := by rw [← Array.toArray_toList (xs := its), e1]
    have i2 : its' = #[.str ⟨#[p']⟩ t', .int x' u', .int y' z'] := by rw [← Array.toArray_toList (xs := its'), e2]
    subst i1 i2
    refine fin (fun j => match j with | 0 => decide (p = p') | 1 => decide (x = x') | _ => decide (y = y')) (fun j => match j with | 0 => decide (p < p') | 1 => decide (x < x') | _ => decide (y < y')) (fun j h1 h2 => ?_) (fun j h1 h2 _ => ?_) ?_
    · match j, h1, h2 with
      | 0, _, _ => rw [← eqs]; exact SeqAt.EqAt.str_str _ _ _ _
      | 1, _, _ => rw [← eqi]; exact SeqAt.EqAt.int_int _ _ _ _
      | 2, _, _ => rw [← eqi]; exact SeqAt.EqAt.int_int _ _ _ _
    · match j, h1, h2 with
      | 0, _, _ => rw [← nats]; exact rc_str _ _ _ _
      | 1, _, _ => exact Ob.RcOp.lt_int _ _ _ _
      | 2, _, _ => exact Ob.RcOp.lt_int _ _ _ _
    · rw [tc_a, tc_a]
      rcases c with ⟨_, _, _, ee, hh⟩ | ⟨_, _, ee, _⟩
      · rcases c' with ⟨_, _, _, ee', hh'⟩ | ⟨_, _, ee', _⟩
        · cases ee
          cases ee'
          show Ob.lexAt _ _ (decide (3 < 3)) 0 3 = _
          simp only [Ob.lexAt_succ, Ob.lexAt_zero, decide_eq_true_eq]
          by_cases h1 : p = p'
          · by_cases h2 : x = x'
            · by_cases h3 : y = y'
              · exact absurd (by rw [h1, h2, h3]) ne
              · rw [if_pos h1, if_pos h2, if_neg h3]
                exact decide_eq_decide.mpr (by omega)
            · rw [if_pos h1, if_neg h2]
              exact decide_eq_decide.mpr (by omega)
          · rw [if_neg h1]
            exact decide_eq_decide.mpr (by omega)
        · cases ee'
      · cases ee
  · have i1 : its = #[.str ⟨#[p]⟩ t, .int x u, .int y z] := by rw [← Array.toArray_toList (xs := its), e1]
    have i2 : its' = #[.str ⟨#[p']⟩ t', .int x' u'] := by rw [← Array.toArray_toList (xs := its'), e2]
    subst i1 i2
    refine fin (fun j => match j with | 0 => decide (p = p') | _ => decide (x = x')) (fun j => match j with | 0 => decide (p < p') | _ => decide (x < x')) (fun j h1 h2 => ?_) (fun j h1 h2 _ => ?_) ?_
    · match j, h1, h2 with
      | 0, _, _ => rw [← eqs]; exact SeqAt.EqAt.str_str _ _ _ _
      | 1, _, _ => rw [← eqi]; exact SeqAt.EqAt.int_int _ _ _ _
    · match j, h1, h2 with
      | 0, _, _ => rw [← nats]; exact rc_str _ _ _ _
      | 1, _, _ => exact Ob.RcOp.lt_int _ _ _ _
    · rw [tc_a, tc_m]
      rcases c with ⟨_, _, _, ee, hh⟩ | ⟨_, _, ee, _⟩
      · rcases c' with ⟨_, _, _, ee', _⟩ | ⟨_, _, ee', hh'⟩
        · cases ee'
        · cases ee
          cases ee'
          show Ob.lexAt _ _ (decide (3 < 2)) 0 2 = _
          simp only [Ob.lexAt_succ, Ob.lexAt_zero, decide_eq_true_eq]
          rw [if_neg (by omega)]
          exact decide_eq_decide.mpr (by omega)
      · cases ee
  · have i1 : its = #[.str ⟨#[p]⟩ t, .int x u] := by rw [← Array.toArray_toList (xs := its), e1]
    have i2 : its' = #[.str ⟨#[p']⟩ t', .int x' u', .int y' z'] := by rw [← Array.toArray_toList (xs := its'), e2]
    subst i1 i2
    refine fin (fun j => match j with | 0 => decide (p = p') | _ => decide (x = x')) (fun j => match j with | 0 => decide (p < p') | _ => decide (x < x')) (fun j h1 h2 => ?_) (fun j h1 h2 _ => ?_) ?_
    · match j, h1, h2 with
      | 0, _, _ => rw [← eqs]; exact SeqAt.EqAt.str_str _ _ _ _
      | 1, _, _ => rw [← eqi]; exact SeqAt.EqAt.int_int _ _ _ _
    · match j, h1, h2 with
      | 0, _, _ => rw [← nats]; exact rc_str _ _ _ _
      | 1, _, _ => exact Ob.RcOp.lt_int _ _ _ _
    · rw [tc_m, tc_a]
      rcases c with ⟨_, _, _, ee, _⟩ | ⟨_, _, ee, hh⟩
      · cases ee
      · rcases c' with ⟨_, _, _, ee', hh'⟩ | ⟨_, _, ee', _⟩
        · cases ee
          cases ee'
          show Ob.lexAt _ _ (decide (2 < 3)) 0 2 = _
          simp only [Ob.lexAt_succ, Ob.lexAt_zero, decide_eq_true_eq]
          rw [if_neg (by omega)]
          exact decide_eq_decide.mpr (by omega)
        · cases ee'
  · have i1 : its = #[.str ⟨#[p]⟩ t, .int x u] := by rw [← Array.toArray_toList (xs := its), e1]
    have i2 : its' = #[.str ⟨#[p']⟩ t', .int x' u'] := by rw [← Array.toArray_toList (xs := its'), e2]
    subst i1 i2
    refine fin (fun j => match j with | 0 => decide (p = p') | _ => decide (x = x')) (fun j => match j with | 0 => decide (p < p') | _ => decide (x < x')) (fun j h1 h2 => ?_) (fun j h1 h2 _ => ?_) ?_
    · match j, h1, h2 with
      | 0, _, _ => rw [← eqs]; exact SeqAt.EqAt.str_str _ _ _ _
      | 1, _, _ => rw [← eqi]; exact SeqAt.EqAt.int_int _ _ _ _
    · match j, h1, h2 with
      | 0, _, _ => rw [← nats]; exact rc_str _ _ _ _
      | 1, _, _ => exact Ob.RcOp.lt_int _ _ _ _
    · rw [tc_m, tc_m]
      rcases c with ⟨_, _, _, ee, _⟩ | ⟨_, _, ee, hh⟩
      · cases ee
      · rcases c' with ⟨_, _, _, ee', _⟩ | ⟨_, _, ee', hh'⟩
        · cases ee'
        · cases ee
          cases ee'
          show Ob.lexAt _ _ (decide (2 < 2)) 0 2 = _
          simp only [Ob.lexAt_succ, Ob.lexAt_zero, decide_eq_true_eq]
          by_cases h1 : p = p'
          · by_cases h2 : x = x'
            · exact absurd (by rw [h1, h2]) ne
            · rw [if_pos h1, if_neg h2]
              exact decide_eq_decide.mpr (by omega)
          · rw [if_neg h1]
            exact decide_eq_decide.mpr (by omega)
/-- two choices -/
theorem lex_ch {Q : Bool → Shared → Prop} (hu : A.units < cLine) : ∀ {ks ks' : List TK} (i : Nat), ks.length = ks'.length → (∀ p ∈ ks, IsTupleKey (mixKind P w) s.heap p.2 p.1) → (∀ p ∈ ks', IsTupleKey (mixKind P w) s.heap p.2 p.1) → (∀ p ∈ ks, CK p.2) → (∀ p ∈ ks', CK p.2) → Q (decide (cc (ks.map (·.2)) < cc (ks'.map (·.2)))) s →
    PySem.W.KatLex P w A false false Q ((refsV ks).zip (refsV ks')) i s
  | [], [], _, _, _, _, _, _, h => by
    have e : decide (cc (([] : List TK).map (·.2)) < cc (([] : List TK).map (·.2))) = false := rfl
    rw [e] at h
    exact PySem.W.kat_nil h
  | [], _ :: _, _, hl, _, _, _, _, _ => by cases hl
  | _ :: _, [], _, hl, _, _, _, _, _ => by cases hl
  | p :: ks, p' :: ks', i, hl, h1, h2, c1, c2, h => by
    have hl' : ks.length = ks'.length := Nat.succ.inj hl
    have k1 := h1 p (List.mem_cons_self ..)
    have k2 := h2 p' (List.mem_cons_self ..)
    have d1 := c1 p (List.mem_cons_self ..)
    have d2 := c2 p' (List.mem_cons_self ..)
    have b1 : ∀ x ∈ (ks.map (·.2)).map tc, 0 ≤ x ∧ x < 2097152 := fun x hx => by
      rw [List.map_map] at hx
      obtain ⟨q, hq, rfl⟩ := List.mem_map.mp hx
      exact tc_bd (c1 q (List.mem_cons_of_mem _ hq))
    have b2 : ∀ x ∈ (ks'.map (·.2)).map tc, 0 ≤ x ∧ x < 2097152 := fun x hx => by
      rw [List.map_map] at hx
      obtain ⟨q, hq, rfl⟩ := List.mem_map.mp hx
      exact tc_bd (c2 q (List.mem_cons_of_mem _ hq))
    have ll : ((ks.map (·.2)).map tc).length = ((ks'.map (·.2)).map tc).length := by simp only [List.length_map]; exact hl'
    show PySem.W.KatLex P w A false false Q ((Value.ref p.1, Value.ref p'.1) :: (refsV ks).zip (refsV ks')) i s
    have h : Q (decide (ccN (tc p.2 :: (ks.map (·.2)).map tc) < ccN (tc p'.2 :: (ks'.map (·.2)).map tc))) s := h
    refine PySem.W.kat_cons (wpAny_eqBool_tuple hu k1 k2 ?_)
    by_cases e : p.2 = p'.2
    · rw [decide_eq_true e]
      refine PySem.W.kat_yes (lex_ch hu (i + 1) hl' (fun q hq => h1 q (List.mem_cons_of_mem _ hq)) (fun q hq => h2 q (List.mem_cons_of_mem _ hq)) (fun q hq => c1 q (List.mem_cons_of_mem _ hq)) (fun q hq => c2 q (List.mem_cons_of_mem _ hq)) ?_)
      rw [e, decide_eq_decide.mpr (ccN_same ll)] at h
      exact h
    · rw [decide_eq_false e]
      refine PySem.W.kat_no ?_
      show wpAny (model P w) A (oneLt' false (.ref p.1) (.ref p'.1)) Q (fun _ _ => False) s
      refine tie_lt hu k1 k2 d1 d2 e ?_
      have : decide (ccN (tc p.2 :: (ks.map (·.2)).map tc) < ccN (tc p'.2 :: (ks'.map (·.2)).map tc)) = decide (tc p.2 < tc p'.2) := by
        refine decide_eq_decide.mpr ⟨fun z => ?_, fun z => ccN_lt ll b1 b2 z⟩
        rcases Int.lt_trichotomy (tc p.2) (tc p'.2) with y | y | y
        · exact y
        · exact absurd (tc_inj d1 d2 y) e
        · have := ccN_lt ll.symm b2 b1 y
          omega
      rw [← this]
      exact h
theorem swo_rank (r : Value → Int) : SrtO.Swo (fun v u => decide (r v < r u)) := ⟨fun x y h => by
  rw [decide_eq_true_eq] at h
  exact decide_eq_false (by omega), fun x y z h1 h2 => by
  have a := of_decide_eq_false h1
  have b := of_decide_eq_false h2
  exact decide_eq_false (by omega)⟩
abbrev CH := Addr × List TK
abbrev crefs (L : List CH) : List V := L.map fun p => V.ref p.1
abbrev crefsV (L : List CH) : List Value := L.map fun p => Value.ref p.1
abbrev ccOf (p : CH) : Int := cc (p.2.map (·.2))
theorem pick_permC : ∀ {vs : List Value} {ks : List CH}, vs.Perm (crefsV ks) → ∃ ks' : List CH, vs = crefsV ks' ∧ ks'.Perm ks := by
  intro vs ks h
  generalize e : crefsV ks = us at h
  induction h generalizing ks with
  | nil =>
    cases ks with
    | nil => exact ⟨[], rfl, .nil⟩
    | cons _ _ => cases e
  | @cons x l1 l2 h ih =>
    cases ks with
    | nil => cases e
    | cons p r =>
      obtain ⟨e1, e2⟩ := List.cons.inj e
      obtain ⟨k', e3, pm⟩ := ih e2
      exact ⟨p :: k', by rw [e3, ← e1]; rfl, .cons p pm⟩
  | swap x y l =>
    cases ks with
    | nil => cases e
    | cons p r =>
      cases r with
      | nil => cases (List.cons.inj e).2
      | cons q r =>
        obtain ⟨e1, e2⟩ := List.cons.inj e
        obtain ⟨e3, e4⟩ := List.cons.inj e2
        exact ⟨q :: p :: r, by rw [← e1, ← e3, ← e4]; rfl, .swap p q r⟩
  | trans h1 h2 ih1 ih2 =>
    obtain ⟨k2, e2, p2⟩ := ih2 e
    obtain ⟨k1, e1, p1⟩ := ih1 e2.symm
    exact ⟨k1, e1, p1.trans p2⟩
theorem ch_firsts {h : Heap} {d : Nat} (hd : 0 < d) : ∀ L : List CH, (∀ p ∈ L, ChAt P w h p.1 p.2 ∧ p.2.length = d) → ∃ fs, PySem.W.KatTups h (crefsV L) fs ∧ fs.length = L.length ∧ ∀ f, f ∈ fs → ∃ b k, f = Value.ref b ∧ IsTupleKey (mixKind P w) h k b
  | [], _ => ⟨[], PySem.W.KatTups.nil, rfl, fun f hf => nomatch hf⟩
  | p :: L, hc => by
    obtain ⟨fs, k1, l1, i1⟩ := ch_firsts hd L fun q hq => hc q (List.mem_cons_of_mem _ hq)
    obtain ⟨c, hl⟩ := hc p (List.mem_cons_self ..)
    obtain ⟨o, xs, n, ho, hcl, hdt, hx⟩ := c.ob
    cases e : p.2 with
    | nil => rw [e] at hl; simp at hl; omega
    | cons t r =>
      rw [e] at hx
      refine ⟨.ref t.1 :: fs, PySem.W.KatTups.cons ho hcl hdt (by rw [← Array.getElem?_toList, hx]; rfl) k1, by rw [List.length_cons, List.length_cons, l1], fun f hf => ?_⟩
      rcases List.mem_cons.mp hf with rfl | hf
      · exact ⟨t.1, t.2, rfl, c.key t (by rw [e]; exact List.mem_cons_self ..)⟩
      · exact i1 f hf
/-- sorted(xs), xs a list of choices -/
theorem sorted_ch {l : Addr} {L : List CH} {d : Nat} {Q : Value → Shared → Prop} (hu : A.units + 4 < cLine) (hl : s.heap.IsList l (crefsV L).toArray) (hz : L.length ≤ 1000) (hd : 0 < d) (hc : ∀ p ∈ L, ChAt P w s.heap p.1 p.2 ∧ p.2.length = d)
    (h : ∀ (h' : Heap) (p : Addr) (c : Nat) (out : Array Value) (L' : List CH), (∀ b o, s.heap.get? b = some o → h'.get? b = some o) → s.heap.objs.size ≤ p → h'.get? p = some (seqObj "list" out c) → out.toList = crefsV L' → L'.Perm L → L'.Pairwise (fun p q => ccOf p ≤ ccOf q) → Q (.ref p) { s with heap := h' }) :
    wpAny (model P w) A (call (.builtin "sorted") [.ref l]) Q E s := by
  have hzl : (crefsV L).length ≤ sizeLine := by rw [List.length_map, sizeLine_eq]; omega
  refine SrtO.sorted_ord (swo_rank (cvOf s.heap)) hl hzl (fun h2 h₁ a ha kk => ?_) fun out hs hb => ?_
  · intro h3 keep
    have hk : ∀ b o, s.heap.get? b = some o → o.cls = .type "tuple" → h3.get? b = some o := fun b o e c => keep b o (kk b o e).1 (kk b o e).2
    have hc3 : ∀ p ∈ L, ChAt P w h3 p.1 p.2 ∧ p.2.length = d := fun p hp => ⟨(hc p hp).1.keep hk, (hc p hp).2⟩
    obtain ⟨fs, kt, hfl, hf⟩ := ch_firsts hd L hc3
    rw [List.length_map] at h2
    refine ⟨tuples' false, fun Q' E' hq => ?_, fun p q hp hq => ?_⟩
    · refine PySem.W.kat_kind (T := Value.type "tuple") kt (by omega) (fun f hfm => ?_) rfl ?_
      · obtain ⟨b, k, rfl, o, its, n, ho, hcl, _⟩ := hf f hfm
        exact fun _ _ _ _ kp hq => wpAny_typeOf_ref (kp _ _ ho) (by rw [hcl]; exact hq)
      · have e : (Value.type "tuple" != Value.type "tuple") = false := by first | decide +kernel | rfl | decide
        rw [e]
        exact hq
    · obtain ⟨u, hu1, e1⟩ := List.mem_map.mp hp
      obtain ⟨v, hv1, e2⟩ := List.mem_map.mp hq
      show wpAny (model P w) A.in1.in1 (keyLt' (tuples' false) p.1 q.1) (fun r s' => s' = _ ∧ r = decide (cvOf s.heap p.1 < cvOf s.heap q.1)) (fun _ _ => False) _
      rw [← e1, ← e2]
      obtain ⟨cu, lu⟩ := hc3 u hu1
      obtain ⟨cw, lv⟩ := hc3 v hv1
      rw [(hc u hu1).1.num, (hc v hv1).1.num]
      obtain ⟨o, xs, n, ho, hcl, hdt, hx⟩ := cu.ob
      obtain ⟨o', xs', n', ho', hcl', hdt', hx'⟩ := cw.ob
      refine PySem.W.kat_lt ho hdt ho' hdt' ?_
      have sz : decide (xs.size < xs'.size) = false := by
        have z1 := congrArg List.length hx
        have z2 := congrArg List.length hx'
        rw [List.length_map, Array.length_toList] at z1 z2
        exact decide_eq_false (by omega)
      rw [sz, hx, hx']
      exact lex_ch (s := { s with heap := h3 }) (by simp only [Around.in1_units]; omega) 0 (by omega) cu.key cw.key cu.ck cw.ck ⟨rfl, rfl⟩
  · obtain ⟨L', e, pm⟩ := pick_permC hb.perm
    obtain ⟨c, hat⟩ := sortedAll_at s.heap (crefsV L) out.toArray
    refine h _ _ c out.toArray L' (fun b o e => sortedAll_old e) (Nat.le_succ _) hat (by rw [← e]) pm ?_
    rw [e] at hs
    refine List.Pairwise.imp_of_mem (fun {p q} hp hq hle => ?_) (List.pairwise_map.mp hs)
    have hle : decide (cvOf s.heap (.ref q.1) < cvOf s.heap (.ref p.1)) = false := hle
    rw [(hc p (pm.mem_iff.mp hp)).1.num, (hc q (pm.mem_iff.mp hq)).1.num] at hle
    have := of_decide_eq_false hle
    show cc _ ≤ cc _
    omega
end
section
variable {X : Cx} {pins : List (Addr × Obj)} {σ : L2.St} {H : Hp} {s : Shared}
/-- a choice among what is tracked -/
structure ChH (K : PySem.W.Frag) (H : Hp) (d : Nat) (p : CH) : Prop where
  tp : SqT K H p.1 (refs p.2)
  key : ∀ q ∈ p.2, SqT K H q.1 (q.2.map kV)
  ck : ∀ q ∈ p.2, CK q.2
  len : p.2.length = d
theorem ch_at (I : L2.Inv X pins σ H s) {d : Nat} {p : CH} (h : ChH X.K H d p) : ChAt X.prog X.w s.heap p.1 p.2 := by
  obtain ⟨its, r, ⟨o, ho, hc, n, hd⟩, _⟩ := I.tuple h.tp
  have e := refs_vals r
  exact ⟨⟨o, its.toArray, n, ho, hc, hd, by simpa using e⟩, fun q hq => key_at I (h.key q hq), h.ck⟩
theorem vals_crefs : ∀ ks : List CH, Vals (crefs ks) (crefsV ks)
  | [] => .nil
  | p :: ks => .cons rfl (vals_crefs ks)
theorem crefs_vals : ∀ {ks : List CH} {us : List Value}, Vals (crefs ks) us → us = crefsV ks
  | [], _, .nil => rfl
  | p :: ks, _, .cons h r => by
    have h' : _ = Value.ref p.1 := h
    rw [h', crefs_vals r]
    rfl
def rSortC (K : PySem.W.Frag) : List V → Hp → VK → Prop := fun vs H Q => ∃ a L d, vs = [V.ref a] ∧ SqL K H a (crefs L) ∧ L.length ≤ 1000 ∧ 0 < d ∧ (∀ p ∈ L, ChH K H d p) ∧
  ∀ L' p, L'.Perm L → L'.Pairwise (fun p q => ccOf p ≤ ccOf q) → H p = none → Q (.ref p) (upd H p (.lst (crefs L')))
theorem cr_sortC {K : PySem.W.Frag} (hK : X.K = K) (hu : X.A.units + 64 < cLine) : CallR X (.builtin "sorted") (rSortC K) := by
  subst hK
  rintro pins s σ H vs us Q I r ⟨a, L, d, rfl, hl, hz, hd, hc, q⟩
  rw [Vals.ref1 r]
  obtain ⟨its, rv, pl, _⟩ := I.list hl
  have ei := crefs_vals rv
  subst ei
  refine sorted_ch (by omega) pl.isList hz hd (fun p hp => ⟨ch_at I (hc p hp), (hc p hp).len⟩) fun h' p c out L' k hp hg ho pm pw => ?_
  have hlen : (crefs L').length ≤ sizeLine := by
    rw [List.length_map, pm.length_eq, sizeLine_eq]
    omega
  have hv : Vals (crefs L') out.toList := by
    rw [ho]
    exact vals_crefs L'
  exact ⟨.ref p, _, I.laid (o := .lst (crefs L')) (t' := s.toks) k hp ⟨hlen, out.toList, c, hv, hg⟩, rfl, q L' p pm pw (I.hok.fresh hp)⟩
end
end Sg
namespace Dv
open PySem PySem.Spec PyProof.Rows L2 Sg
variable {S : Base} {B : Bo S} {X : XK}
theorem M.cat_map {α β γ : Type} {f : α → M (List γ)} {g : β → α} {h : β → List γ} : ∀ {l : List β}, (∀ b ∈ l, (f (g b)).run fun xs => xs = h b) → (M.cat f (l.map g)).run fun ys => ys = l.flatMap h
  | [], _ => rfl
  | b :: l, hf => by
    show (f (g b)).run fun xs => (M.cat f (l.map g)).run fun ys => xs ++ ys = _
    refine (f (g b)).mono (fun xs hx => ?_) (hf b (List.mem_cons_self ..))
    refine (M.cat f (l.map g)).mono (fun ys hy => ?_) (M.cat_map (l := l) fun c hc => hf c (List.mem_cons_of_mem _ hc))
    rw [hx, hy]
    rfl
/-! ### what was one's own stays as it is from now on -/
theorem RsG.frz {H0 G0 H G : Hp} {σ : L2.St} {ρ : Ev} {A : Nat → Addr} (r : RsG S B H0 G0 σ H ρ G A) {i : Nat} {s : Sl} (e : ρ[i]? = some (some s)) (w : s.owned = true) : ∃ G', RsG S B H0 G0 σ H (ρ.set i (some (.f s.data))) G' A := by
  obtain ⟨h1, h2, h3, o, h4, h5⟩ := r.ow i s e w
  have hs : Dv.Sub G (L2.upd G (A i) o) := sub_new h3
  refine ⟨L2.upd G (A i) o, r.aw, ⟨fun a u q => ?_, fun b q z => ?_, r.ok.bx, r.ok.tb, fun a ps q => ?_⟩, ⟨r.ch.ch, r.ch.fr, r.ch.ext.trans hs, fun a u q => ?_⟩, by rw [List.length_set]; exact r.len, fun j d q => ?_, fun j t q w' => ?_, fun j j' t t' q1 q2 w1 w2 ne => ?_⟩
  · by_cases z : a = A i
    · subst z; rw [upd_same] at q; cases q; exact h4
    · rw [upd_ne z] at q; exact r.ok.sub a u q
  · rw [upd_ne (r.away h2 b q z).1]
    exact r.ok.nm b q z
  · by_cases z : a = A i
    · subst z; rw [upd_same] at q; cases q; exact plainO.nt h5.pl ps rfl
    · rw [upd_ne z] at q; exact r.ok.nt a ps q
  · by_cases z : a = A i
    · subst z; exact .inr h2
    · rw [upd_ne z] at q; exact r.ch.new a u q
  · rcases get_set q with ⟨rfl, z⟩ | ⟨n, q⟩
    · cases z
      exact ⟨_, h1, Ow.rp upd_same (h5.mono hs)⟩
    · obtain ⟨u, k1, k2⟩ := r.fz j d q
      exact ⟨u, k1, k2.mono hs⟩
  · rcases get_set q with ⟨rfl, z⟩ | ⟨n, q⟩
    · cases z; cases w'
    · obtain ⟨k1, k2, k3, o', k4, k5⟩ := r.ow j t q w'
      exact ⟨k1, k2, by rw [upd_ne (r.dj j i t s q e w' w n)]; exact k3, o', k4, k5.mono hs⟩
  · rcases get_set q1 with ⟨rfl, z⟩ | ⟨n, q1⟩
    · cases z; cases w1
    · rcases get_set q2 with ⟨rfl, z⟩ | ⟨n2, q2⟩
      · cases z; cases w2
      · exact r.dj j j' t t' q1 q2 w1 w2 ne
theorem sv_frz {i : Nat} {t : TS} {g : Ev → M Ou} (h : SvD S X t g) : SvD S X t (fun ρ => M.bnd (ownL ρ i) fun ds => g (ρ.set i (some (.f (.lst ds))))) := fun B H0 G0 σ H ρ E ⟨G, A, r⟩ q => by
  obtain ⟨ds, e, q⟩ := ownL_run q
  obtain ⟨G', r'⟩ := r.frz e rfl
  exact h B H0 G0 σ H _ E ⟨G', A, r'⟩ q
/-! ### x.reverse() -/
theorem RpA.rev {G : Hp} : ∀ {xs : List V} {ds : List D}, RpA S B G xs ds → RpA S B G xs.reverse ds.reverse
  | _, _, .nil => .nil
  | _, _, .cons h r => by
    rw [List.reverse_cons, List.reverse_cons]
    exact (RpA.rev r).append (.cons h .nil)
theorem sv_rev {i : Nat} : SvD S X (tDrop (tBM0 S.K "list" rReverse (tVar i))) (fun ρ => M.bnd (ownL ρ i) fun ds => M.ret (.nx (ρ.set i (some (.o ds.reverse))))) := fun B H0 G0 σ H ρ E ⟨G, A, r⟩ q => by
  obtain ⟨ds, e, q⟩ := ownL_run q
  obtain ⟨h1, h2, h3, o, h4, h5⟩ := r.ow i _ e rfl
  cases o <;> first
    | exact h5.elim
    | (rename_i xs
       refine ⟨_, h1, .inl ⟨rfl, _, SqL.of h4⟩, _, xs, rfl, rfl, h4, ?_⟩
       exact (show ∀ σ H, Rs S B H0 G0 σ H _ → E.nx σ H from q) _ _ ⟨G, A, r.put (s' := .o ds.reverse) (o' := .lst xs.reverse) e rfl rfl (show RpA S B G xs.reverse ds.reverse from RpA.rev h5)⟩)
/-! ### x *= e -/
theorem sv_augM {i : Nat} {te : TE} {m : Env → M D} (h : EvD S te m) : SvD S X (tAug i te Tm.ipM) (fun ρ => M.bnd (M.opt ((mask ρ)[i]?.join)) fun d => M.bnd (asI d) fun a => M.bnd (m (mask ρ)) fun e => M.bnd (asI e) fun b => M.bnd (M.req (-(2 ^ 64) < b ∧ b < 2 ^ 64)) fun _ => M.ret (.nx (ρ.set i (some (.f (.int (a * b))))))) := fun B H0 G0 σ H ρ E ⟨G, A, r⟩ q => by
  obtain ⟨d, hd, q⟩ := M.run_opt q
  have e' : (mask ρ)[i]? = some (some d) := by
    cases h1 : (mask ρ)[i]? with
    | none => rw [h1] at hd; cases hd
    | some o => rw [h1] at hd; rw [show o = some d from hd]
  obtain ⟨v, h1, h2⟩ := r.mask.get i d e'
  refine ⟨v, h1, ?_⟩
  cases h2 <;> first
    | exact q.elim
    | (rename_i a
       refine h B σ H G (mask ρ) _ r.ok r.mask ((m (mask ρ)).mono (fun e he v2 H2 G2 k2 c2 r2 => ?_) q)
       cases r2 <;> first
         | exact he.elim
         | (rename_i b
            exact ⟨a, b, rfl, rfl, he.1, (show ∀ σ H, Rs S B H0 G0 σ H (ρ.set i (some (.f (.int (a * b))))) → E.nx σ H from he.2) _ _ ⟨G2, A, (r.step k2 c2).set (.int _) i⟩⟩))
/-! ### t + u -/
def catT : D → D → M D
  | .tup a, .tup b => M.bnd (M.req (a.length + b.length ≤ 100000)) fun _ => M.ret (.tup (a ++ b))
  | _, _ => M.fail
theorem catT_go (a b : List D) : catT (.tup a) (.tup b) = M.bnd (M.req (a.length + b.length ≤ 100000)) fun _ => M.ret (.tup (a ++ b)) := rfl
theorem r_catT : R2D S (rCatA S.K) catT := fun B H G x y d e Q k rx ry h => by
  cases d <;> cases e <;> first
    | exact h.elim
    | (cases rx with
       | tup ha hr =>
         cases ry with
         | tup hb hs =>
           rename_i xs _ ys
           have l1 := hr.length
           have l2 := hs.length
           refine ⟨_, _, _, _, rfl, rfl, sub_tup k.sub ha, sub_tup k.sub hb, by rw [l1, l2]; exact small h.1, fun z => ?_, fun _ z => ?_, fun _ _ p hp => ?_⟩
           · subst z
             cases hr
             exact Rs1.now k h.2 (.tup hb hs)
           · subst z
             cases hs
             have h9 := h.2
             rw [List.append_nil] at h9
             exact Rs1.now k h9 (.tup ha hr)
           · obtain ⟨k2, c2⟩ := k.put hp (.tup (xs ++ ys)) (fun _ z => nomatch z)
             exact (show Rs1 S B H G Q _ from h.2) _ _ _ k2 c2 (.tup (SqT.of upd_same) ((hr.mono c2.ext).append (hs.mono c2.ext))))
theorem op_catAK {Y : Cx} {K : PySem.W.Frag} (h : Y.K = K) : OpR Y (binaryOp .Add) (rCatA K) := by subst h; exact op_catA
/-! ### sorted, of choices -/
def chD (c : List Ks) : D := .tup (c.map tieD)
def srtC : List D → M (List D)
  | [.lst es] => M.bnd (M.choose fun p : List (List Ks) × Nat => es = p.1.map chD ∧ 0 < p.2 ∧ (∀ c ∈ p.1, c.length = p.2 ∧ ∀ k ∈ c, CK k) ∧ p.1.length ≤ 1000) fun p => M.bnd (M.all fun u : List (List Ks) => u.Perm p.1 ∧ u.Pairwise fun a b => cc a ≤ cc b) fun u => M.ret (u.map chD)
  | _ => M.fail
theorem srtC_go (es : List D) : srtC [.lst es] = M.bnd (M.choose fun p : List (List Ks) × Nat => es = p.1.map chD ∧ 0 < p.2 ∧ (∀ c ∈ p.1, c.length = p.2 ∧ ∀ k ∈ c, CK k) ∧ p.1.length ≤ 1000) fun p => M.bnd (M.all fun u : List (List Ks) => u.Perm p.1 ∧ u.Pairwise fun a b => cc a ≤ cc b) fun u => M.ret (u.map chD) := rfl
theorem chs_of {G : Hp} {d : Nat} : ∀ {l : List (List Ks)} {xs : List V}, RpA S B G xs (l.map chD) → (∀ c ∈ l, c.length = d ∧ ∀ k ∈ c, CK k) → ∃ L : List CH, xs = crefs L ∧ (L.map fun p => p.2.map (·.2)) = l ∧ ∀ p ∈ L, ChH S.K G d p
  | [], _, .nil, _ => ⟨[], rfl, rfl, fun p hp => nomatch hp⟩
  | c :: l, _, .cons h r, hc => by
    obtain ⟨L, rfl, rfl, h2⟩ := chs_of r fun x hx => hc x (List.mem_cons_of_mem _ hx)
    cases h with
    | tup ha hr =>
      obtain ⟨ks, rfl, h3, h4⟩ := tks_of hr
      obtain ⟨c1, c2⟩ := hc c (List.mem_cons_self ..)
      refine ⟨(_, ks) :: L, rfl, by rw [List.map_cons, h4], fun p hp => ?_⟩
      rcases List.mem_cons.mp hp with rfl | hp
      · refine ⟨ha, h3, fun q hq => c2 _ ?_, ?_⟩
        · rw [← h4]; exact List.mem_map.mpr ⟨q, hq, rfl⟩
        · have := congrArg List.length h4
          rw [List.length_map] at this
          exact this.trans c1
      · exact h2 p hp
theorem rp_chs {G : Hp} {d : Nat} : ∀ {L : List CH}, (∀ p ∈ L, ChH S.K G d p) → RpA S B G (crefs L) ((L.map fun p => p.2.map (·.2)).map chD)
  | [], _ => .nil
  | p :: L, h => by
    have hp := h p (List.mem_cons_self ..)
    exact .cons (.tup hp.tp (rp_refs hp.key)) (rp_chs fun q hq => h q (List.mem_cons_of_mem _ hq))
theorem r_sortC : RCL S (rSortC S.K) srtC := fun B H G vs ds Q k r h => by
  unfold srtC at h
  split at h
  · obtain ⟨⟨l, d⟩, ⟨rfl, hd, hc, hl⟩, h⟩ := h
    dsimp only at hd hc hl h
    cases r with
    | cons r1 r2 =>
      cases r2
      cases r1 with
      | lst ha hr =>
        obtain ⟨L, rfl, rfl, hL⟩ := chs_of hr hc
        rw [List.length_map] at hl
        have up : ∀ p ∈ L, ChH S.K H d p := fun p hp => ⟨sub_tup k.sub (hL p hp).tp, fun q hq => sub_tup k.sub ((hL p hp).key q hq), (hL p hp).ck, (hL p hp).len⟩
        refine ⟨_, L, d, rfl, SqL.of (k.sub _ _ ha), hl, hd, up, fun L' p pm pw np => ?_⟩
        refine Rs2.lay k (show Rs2 S B H G Q ((L'.map fun p => p.2.map (·.2)).map chD) from h _ ⟨pm.map _, ?_⟩) (rp_chs fun q hq => hL q (pm.mem_iff.mp hq)) np
        rw [List.pairwise_map]
        exact pw
  · exact h.elim
/-! ### a call that tells a new list and does not refuse, as a value -/
def okYD : Ry → M D
  | .ok ds => M.ret (.lst ds)
  | .er _ => M.fail
theorem okYD_go (ds : List D) : okYD (.ok ds) = M.ret (.lst ds) := rfl
theorem ed_callY {f : List D → M Ry} {E : XK} {t : TA} {m : Env → M (List D)} (h : EvA S t m) : EvD S (tCall (spY S f) [] E t) (fun ρ => M.bnd (m ρ) fun l => M.bnd (f l) okYD) := fun B σ H G ρ Q k er q =>
  h B σ H G ρ _ k er ((m ρ).mono (fun l hl vs H1 G1 k1 c1 r1 => ⟨B, G1, l, k1, by rw [List.append_nil]; exact r1, (f l).mono (fun y hy => by
    cases y with
    | er x => exact hy.elim
    | ok ds => exact Rs1.frz k1 (Rs1.after c1 (show Rs1 S B H G Q (.lst ds) from hy))) hl⟩) q)
end Dv
namespace Dv
open PySem PySem.Spec PyProof.Rows L2 RZ Sg Tm Wb
local macro_rules | `(tactic| walk_at "r2") => `(tactic| first | with_reducible exact r_I0 | with_reducible exact r_I | with_reducible exact r_eq | with_reducible exact r_ne | with_reducible exact r_isN | with_reducible exact r_notN | with_reducible exact r_ixL | with_reducible exact r_ixT | with_reducible exact r_ixQ | with_reducible exact r_eqD | with_reducible exact r_neD | with_reducible exact r_inD | with_reducible exact r_notInD | with_reducible exact r_isB | with_reducible exact r_notB)
local macro_rules | `(tactic| walk_at "r2l") => `(tactic| first | with_reducible exact r_cat)
local macro_rules | `(tactic| walk_at "rc") => `(tactic| first | with_reducible exact r_len | with_reducible exact r_all)
local macro_rules | `(tactic| walk_at "rcl") => `(tactic| first | with_reducible exact r_list)
local macro_rules | `(tactic| walk_at "eo") => `(tactic| first | with_reducible exact eo_none | (with_reducible apply eo_some; walk_at "ed"))
local macro_rules | `(tactic| walk_at "ea") => `(tactic| first | with_reducible exact ea_nil | (with_reducible apply ea_star; walk_at "ed"; walk_at "ea") | (with_reducible apply ea_cons; walk_at "ed"; walk_at "ea"))
local macro_rules | `(tactic| walk_at "et") => `(tactic| first
  | with_reducible exact et_yes
  | (with_reducible apply et_test; walk_at "ed") | (with_reducible apply et_B; walk_at "ed") | (with_reducible apply et_not; walk_at "et")
  | (with_reducible apply et_and; walk_at "et"; walk_at "et") | (with_reducible apply et_or; walk_at "et"; walk_at "et"))
local macro_rules | `(tactic| walk_at "eg") => `(tactic| first | with_reducible exact eg_name | (with_reducible apply eg_tup; walk_at "egs"))
local macro_rules | `(tactic| walk_at "egs") => `(tactic| first | with_reducible exact eg_nil | (with_reducible apply eg_cons; walk_at "eg"; walk_at "egs"))
local macro_rules | `(tactic| walk_at "es") => `(tactic| first | with_reducible exact es_name | (with_reducible apply es_tup; walk_at "ess"))
local macro_rules | `(tactic| walk_at "ess") => `(tactic| first | with_reducible exact es_nil | (with_reducible apply es_cons; walk_at "es"; walk_at "ess"))
local macro_rules | `(tactic| walk_at "ei") => `(tactic| first | (with_reducible apply ei_list; walk_at "ed") | (with_reducible apply ei_tup; walk_at "ed") | (with_reducible apply ei_rng1; walk_at "ea") | (with_reducible apply ei_rng2; walk_at "ea") | (with_reducible apply ei_str; walk_at "ed"))
local macro_rules | `(tactic| walk_at "el") => `(tactic| first
  | (with_reducible apply el_lst; walk_at "ea")
  | (focus (with_reducible apply el_lc; rotate_left; walk_at "ei"; walk_at "eg"; walk_at "et"; walk_at "ed"; decide))
  | (with_reducible apply el_op; walk_at "r2l"; walk_at "ed"; walk_at "ed")
  | (with_reducible apply el_cb; walk_at "rcl"; walk_at "ea")
  | (with_reducible apply el_sl; walk_at "ed"; walk_at "eo"; walk_at "eo")
  | (with_reducible apply el_call; walk_at "ea")
  | walk_at "el+"
  | (with_reducible apply el_meth; decide; walk_at "ed"; walk_at "ea"))
local macro_rules | `(tactic| walk_at "ed") => `(tactic| first
  | with_reducible exact ed_var | with_reducible exact ed_c
  | (with_reducible apply ed_op; walk_at "r2"; walk_at "ed"; walk_at "ed")
  | (with_reducible apply ed_call; walk_at "ea")
  | (with_reducible apply ed_callX; walk_at "ea")
  | (with_reducible apply ed_tup; walk_at "ea")
  | (with_reducible apply ed_if; walk_at "et"; walk_at "ed"; walk_at "ed")
  | (with_reducible apply ed_cb; walk_at "rc"; walk_at "ea")
  | (with_reducible apply ed_un r_U; walk_at "ed")
  | (with_reducible apply ed_chain; walk_at "r2"; walk_at "r2"; walk_at "ed"; walk_at "ed"; walk_at "ed")
  | (with_reducible apply ed_andV; walk_at "ed"; walk_at "ed") | (with_reducible apply ed_orV; walk_at "ed"; walk_at "ed")
  | (with_reducible apply ed_meth; decide; walk_at "ed"; walk_at "ea")
  | walk_at "ed+"
  | (with_reducible apply EvL.d; walk_at "el"))
local macro_rules | `(tactic| walk_at "svF") => `(tactic| first
  | (with_reducible apply sv_seq; walk_at "svF"; walk_at "svF")
  | (with_reducible apply sv_asg; walk_at "ed")
  | (with_reducible apply sv_if; walk_at "et"; walk_at "svF"; walk_at "svF")
  | (with_reducible apply sv_for; walk_at "ei"; walk_at "es"; walk_at "svF")
  | walk_at "sv")
local macro_rules | `(tactic| walk_at "sv") => `(tactic| first
  | with_reducible exact sv_next | with_reducible exact sv_break | with_reducible exact sv_cont | with_reducible exact sv_never | with_reducible exact sv_retN
  | (with_reducible apply sv_seq; walk_at "sv"; walk_at "sv")
  | (with_reducible apply sv_asgL; walk_at "el")
  | (with_reducible apply sv_asg; walk_at "ed")
  | (with_reducible apply sv_if; walk_at "et"; walk_at "sv"; walk_at "sv")
  | (with_reducible apply sv_for; walk_at "ei"; walk_at "es"; walk_at "sv")
  | (with_reducible apply sv_par; walk_at "ea")
  | (with_reducible apply sv_app; walk_at "ed")
  | (with_reducible apply sv_ret; walk_at "ed")
  | (with_reducible apply sv_asgT; walk_at "ed"; walk_at "es")
  | (with_reducible apply sv_drop; walk_at "ed"))
local macro_rules | `(tactic| walk_at "rc") => `(tactic| first | with_reducible exact r_len | with_reducible exact r_all | with_reducible exact r_max | with_reducible exact r_min)
local macro_rules | `(tactic| walk_at "rcl") => `(tactic| first | with_reducible exact r_list | with_reducible exact r_sort)
local macro_rules | `(tactic| walk_at "el+") => `(tactic| (with_reducible apply el_listRg; walk_at "ed"))
local macro_rules | `(tactic| walk_at "edm") => `(tactic| first | (with_reducible apply ed_index; walk_at "ed"; walk_at "ed") | (with_reducible apply ed_dget2; walk_at "ed"; walk_at "ed"; walk_at "ed") | with_reducible exact ed_disp2 | (with_reducible apply ed_chain; walk_at "r2"; walk_at "r2"; walk_at "ed"; walk_at "ed"; walk_at "ed"))
local macro_rules | `(tactic| walk_at "ed+") => `(tactic| walk_at "edm")
local macro_rules | `(tactic| walk_at "ex") => `(tactic| first | (with_reducible apply ex_callI; walk_at "ea") | (with_reducible apply ex_call; walk_at "ea") | (with_reducible apply ex_opL; walk_at "r2"; walk_at "ex"; walk_at "ed"))
local macro_rules | `(tactic| walk_at "svM") => `(tactic| first
  | (with_reducible apply sv_seq; walk_at "svM"; walk_at "svM")
  | (with_reducible apply sv_ins; walk_at "ed")
  | (with_reducible apply sv_asg; walk_at "ed")
  | (with_reducible apply sv_asgX; walk_at "ex")
  | (with_reducible apply sv_retX; walk_at "ex")
  | (with_reducible apply sv_if; walk_at "et"; walk_at "svM"; walk_at "svM")
  | (with_reducible apply sv_for; walk_at "ei"; walk_at "es"; walk_at "svM")
  | walk_at "sv")
local macro_rules | `(tactic| walk_at "rc") => `(tactic| first | with_reducible exact r_len | with_reducible exact r_lenK | with_reducible exact r_all | with_reducible exact r_max | with_reducible exact r_min | with_reducible exact r_max1 | with_reducible exact r_min1 | with_reducible exact r_int | with_reducible exact r_tup)
local macro_rules | `(tactic| walk_at "ei") => `(tactic| first | (with_reducible apply ei_list; walk_at "ed") | (with_reducible apply ei_tup; walk_at "ed") | (with_reducible apply ei_rng1; walk_at "ea") | (with_reducible apply ei_rng2; walk_at "ea") | (with_reducible apply ei_str; walk_at "ed") | (with_reducible apply ei_en; walk_at "ea"))
local macro_rules | `(tactic| walk_at "edk") => `(tactic| first | (with_reducible apply ed_mk2; walk_at "ea"; walk_at "ea") | (with_reducible apply ed_dget; walk_at "ed"; walk_at "ed") | (with_reducible apply ed_din; walk_at "ed"; walk_at "ed") | (with_reducible apply ed_dnin; walk_at "ed"; walk_at "ed") | walk_at "edm")
local macro_rules | `(tactic| walk_at "ed+") => `(tactic| walk_at "edk")
local macro_rules | `(tactic| walk_at "ek") => `(tactic| first | with_reducible exact ek_new | (focus (with_reducible apply ek_dc; rotate_left; walk_at "ei"; walk_at "eg"; walk_at "et"; walk_at "ed"; walk_at "ed"; decide)))
local macro_rules | `(tactic| walk_at "svN") => `(tactic| first
  | (with_reducible apply sv_seq; walk_at "svN"; walk_at "svN")
  | (with_reducible apply sv_ins; walk_at "ed")
  | (with_reducible apply sv_asgK; walk_at "ek")
  | (with_reducible apply sv_asg; walk_at "ed")
  | (with_reducible apply sv_asgX; walk_at "ex")
  | (with_reducible apply sv_dropX; walk_at "ex")
  | (with_reducible apply sv_retX; walk_at "ex")
  | (with_reducible apply sv_dput; walk_at "ed"; walk_at "ed")
  | (with_reducible apply sv_raise rfl; decide; walk_at "ed")
  | (with_reducible apply sv_if; walk_at "et"; walk_at "svN"; walk_at "svN")
  | (with_reducible apply sv_for; walk_at "ei"; walk_at "es"; walk_at "svN")
  | walk_at "sv")
/-! ### ties of two webs put together -/
theorem M.cat_run {α β γ : Type} {f : α → M (List γ)} {g : β → α} {h : β → List γ} : ∀ {l : List β}, (∀ b ∈ l, (f (g b)).run fun xs => xs = h b) → (M.cat f (l.map g)).run fun ys => ys = l.flatMap h := M.cat_map
def prK (w : Int) : Ks → Ks → Option Ks
  | [c, .inl x, .inl y], [c', .inl a, .inl b] => if c = c' then some [c, .inl (x * w + a), .inl (y * w + b)] else none
  | [c, .inl x], [c', .inl a] => if c = c' then some [c, .inl (x * w + a)] else none
  | _, _ => none
def prL (w : Int) (A B : List Ks) : List Ks := A.flatMap fun k => B.filterMap (prK w k)
def shK (n : Int) : Ks → Ks := mvK fun i => i + n
theorem pr_lenI (w : Int) (A B : List Ks) : (prL w A B).length ≤ A.length * B.length := by
  unfold prL
  induction A with
  | nil => exact Nat.zero_le _
  | cons k A ih =>
    rw [List.flatMap_cons, List.length_append, List.length_cons, Nat.succ_mul]
    have := List.length_filterMap_le (prK w k) B
    omega
theorem strOne {a b : Nat} (h : (⟨#[a]⟩ : Str) = ⟨#[b]⟩) : a = b := by
  injection h with h
  injection h with h
  injection h
theorem strEq_self (c : Nat) : decide (V.str ⟨#[c]⟩ = V.str ⟨#[c]⟩) = true := decide_eq_true rfl
theorem strEq_ne {a b : Nat} (h : ¬ a = b) : decide (V.str ⟨#[a]⟩ = V.str ⟨#[b]⟩) = false := decide_eq_false fun z => h (strOne (by injection z))
theorem sh_A {n m : Int} {l : List Ks} (h : ∀ k ∈ l, AK m k) (n0 : 0 ≤ n) : ∀ k ∈ l.map (shK n), AK (n + m) k := fun k hk => by
  obtain ⟨k', hk', rfl⟩ := List.mem_map.mp hk
  obtain ⟨c, x, y, rfl, hc, x0, x1, y0, y1⟩ := h k' hk'
  exact ⟨c, x + n, y + n, rfl, hc, by show 0 ≤ x + n; omega, by show x + n < n + m; omega, by show 0 ≤ y + n; omega, by show y + n < n + m; omega⟩
theorem sh_M {n m : Int} {l : List Ks} (h : ∀ k ∈ l, MK m k) (n0 : 0 ≤ n) : ∀ k ∈ l.map (shK n), MK (n + m) k := fun k hk => by
  obtain ⟨k', hk', rfl⟩ := List.mem_map.mp hk
  obtain ⟨c, x, rfl, hc, x0, x1⟩ := h k' hk'
  exact ⟨c, x + n, rfl, hc, by show 0 ≤ x + n; omega, by show x + n < n + m; omega⟩
theorem akUp {n m : Int} {k : Ks} (h : AK n k) (hm : n ≤ m) : AK m k := by
  obtain ⟨c, x, y, rfl, hc, x0, x1, y0, y1⟩ := h
  exact ⟨c, x, y, rfl, hc, x0, by omega, y0, by omega⟩
theorem mkUp {n m : Int} {k : Ks} (h : MK n k) (hm : n ≤ m) : MK m k := by
  obtain ⟨c, x, rfl, hc, x0, x1⟩ := h
  exact ⟨c, x, rfl, hc, x0, by omega⟩
theorem mul_in {n m x a : Int} (x0 : 0 ≤ x) (x1 : x < n) (a0 : 0 ≤ a) (a1 : a < m) : 0 ≤ x * m + a ∧ x * m + a < n * m := by
  have h1 : 0 ≤ x * m := Int.mul_nonneg x0 (by omega)
  have h2 : (x + 1) * m ≤ n * m := Int.mul_le_mul_of_nonneg_right (by omega) (by omega)
  rw [Int.add_mul, Int.one_mul] at h2
  omega
theorem pr_A {n m : Int} {A B : List Ks} (h : ∀ k ∈ A, AK n k) (h' : ∀ k ∈ B, AK m k) : ∀ k ∈ prL m A B, AK (n * m) k := fun k hk => by
  obtain ⟨k1, hk1, hk⟩ := List.mem_flatMap.mp hk
  obtain ⟨k2, hk2, e⟩ := List.mem_filterMap.mp hk
  obtain ⟨c, x, y, rfl, hc, x0, x1, y0, y1⟩ := h k1 hk1
  obtain ⟨c', a, b, rfl, hc', a0, a1, b0, b1⟩ := h' k2 hk2
  simp only [prK] at e
  split at e
  · cases e
    obtain ⟨p1, p2⟩ := mul_in x0 x1 a0 a1
    obtain ⟨q1, q2⟩ := mul_in y0 y1 b0 b1
    exact ⟨c, _, _, rfl, hc, p1, p2, q1, q2⟩
  · cases e
theorem pr_M {n m : Int} {A B : List Ks} (h : ∀ k ∈ A, MK n k) (h' : ∀ k ∈ B, MK m k) : ∀ k ∈ prL m A B, MK (n * m) k := fun k hk => by
  obtain ⟨k1, hk1, hk⟩ := List.mem_flatMap.mp hk
  obtain ⟨k2, hk2, e⟩ := List.mem_filterMap.mp hk
  obtain ⟨c, x, rfl, hc, x0, x1⟩ := h k1 hk1
  obtain ⟨c', a, rfl, hc', a0, a1⟩ := h' k2 hk2
  simp only [prK] at e
  split at e
  · cases e
    obtain ⟨p1, p2⟩ := mul_in x0 x1 a0 a1
    exact ⟨c, _, rfl, hc, p1, p2⟩
  · cases e
/-- the inner walk: those of the same sign -/
theorem pr_inA {n m : Int} {B : List Ks} (h' : ∀ k ∈ B, AK m k) {z : Str} {x y : Int} : (B.filter fun k => decide (k.head? = some (.inr z))).map (fun k => match k with | [c, .inl a, .inl b] => ([c, .inl (x * m + a), .inl (y * m + b)] : Ks) | k => k) = B.filterMap (prK m [.inr z, .inl x, .inl y]) := by
  induction B with
  | nil => rfl
  | cons k B ih =>
    have ih := ih fun k hk => h' k (List.mem_cons_of_mem _ hk)
    obtain ⟨c', a, b, rfl, _⟩ := h' k (List.mem_cons_self ..)
    by_cases e : z = ⟨#[c']⟩
    · subst e
      rw [List.filter_cons, if_pos (by simp), List.map_cons, ih, List.filterMap_cons_some (b := [.inr ⟨#[c']⟩, .inl (x * m + a), .inl (y * m + b)]) (by simp [prK])]
    · rw [List.filter_cons, if_neg (by simp; exact fun q => e q.symm), ih, List.filterMap_cons_none (by simp only [prK]; rw [if_neg (fun q => e (Sum.inr.inj q))])]
theorem pr_inM {n m : Int} {B : List Ks} (h' : ∀ k ∈ B, MK m k) {z : Str} {x : Int} : (B.filter fun k => decide (k.head? = some (.inr z))).map (fun k => match k with | [c, .inl a] => ([c, .inl (x * m + a)] : Ks) | k => k) = B.filterMap (prK m [.inr z, .inl x]) := by
  induction B with
  | nil => rfl
  | cons k B ih =>
    have ih := ih fun k hk => h' k (List.mem_cons_of_mem _ hk)
    obtain ⟨c', a, rfl, _⟩ := h' k (List.mem_cons_self ..)
    by_cases e : z = ⟨#[c']⟩
    · subst e
      rw [List.filter_cons, if_pos (by simp), List.map_cons, ih, List.filterMap_cons_some (b := [.inr ⟨#[c']⟩, .inl (x * m + a)]) (by simp [prK])]
    · rw [List.filter_cons, if_neg (by simp; exact fun q => e q.symm), ih, List.filterMap_cons_none (by simp only [prK]; rw [if_neg (fun q => e (Sum.inr.inj q))])]
section
variable {P : Program} {w : World} {K : PySem.W.Frag} {mg : Str → Option Value} {base : Heap} {C : Addr} {T : List (Addr × Str)} {cls : Str → Addr}
abbrev sRMore : Stmt := topS 22
def rmoM : List D → M Rx
  | [.int p] => if p > 81 then M.ret (.er ⟨"TooMany", "bound", .int 81⟩) else M.ret (.ok .non)
  | _ => M.fail
theorem rmo_go (p : Int) : rmoM [.int p] = if p > 81 then M.ret (.er ⟨"TooMany", "bound", .int 81⟩) else M.ret (.ok .non) := rfl
theorem len_rmo {ds : List D} {Q : _ → Prop} (h : (rmoM ds).run Q) : ds.length = 1 := by
  unfold rmoM at h
  split at h
  · rfl
  · exact h.elim
abbrev N_rmo : List Str := ["points"]
theorem sc_rmo : FnScope N_rmo ["points"] (defScope sRMore) := ⟨rfl, rfl, rfl, by decide +kernel, rfl, by decide +kernel, by decide +kernel⟩
theorem ok_rmo {f fE : Addr} {fd dE : FuncData} {tk : Tok} (F : Fun K "refuse_more_points" "refuse_more_points" sRMore f fd) (gP : mg "MOST_POINTS" = some (.int 81 tk)) (e : EDf P w K mg base "TooMany" "bound" (cls "TooMany") fE dE) : FnOk P w K mg base (L2.CX P w) 3 f fd ["points"] (spX (mkS K C T cls) rmoM) := by
  refine F.okX sc_rmo (fun vs H Q E h => ?_) (fun cdv A outer s H vs Q E hr h => ?_)
  · obtain ⟨B, G, ds, _, r, h⟩ := h
    rw [r.length]
    exact len_rmo h
  · have hu5 : (A.deeper (envOfC "refuse_more_points" (defScope sRMore) s.heap.objs.size f cdv)).units + 65 < cLine := by
      have := hr.un
      omega
    have hu : (A.deeper (envOfC "refuse_more_points" (defScope sRMore) s.heap.objs.size f cdv)).units + 64 < cLine := by omega
    have hu1 : (A.deeper (envOfC "refuse_more_points" (defScope sRMore) s.heap.objs.size f cdv)).units + 1 < cLine := by omega
    refine ⟨_, (pss_one (ps_if (pt_cmpR op_gt (pv 0) (pe_glob (v := .int 81) (by rfl) gP ⟨_, rfl⟩) (nomark _)) (pss_one (ps_raise rfl (takes_of rfl rfl rfl rfl) (pmk_oex e.er.oe e.er.iC e.er.tI e.ok (hr.mono (by decide)) e.bd .nil pass0 (by rfl) e.gl (pa_cons (pe_glob (v := .int 81) (by rfl) gP ⟨_, rfl⟩) pa_nil)))) pss_nil)), ?_⟩
    refine run_X (X := E) (S := mkS K C T cls) (N := N_rmo) (by walk_at "svN") ?_ h
    intro ds Q hq
    unfold rmoM at hq
    split at hq
    · rename_i p
      have e : startE N_rmo.length [.int p] = [some (.f (.int p))] := rfl
      rw [e]
      simp only [run_bnd, run_ret, run_opt, run_req, run_all, run_choose, run_ite, then_nx, then_rt, then_rl, then_er, then_ct, then_bk, outD_rt, outD_rl, outD_nx, outL_rl, outX_rt, outX_rl, outX_nx, outX_er, mask_nil, mask_cons, mk0_f, mk0_o, mk0_od, mk0_ot, mk0_n, peek_nil, peek_cons, pk_f, pk_o, pk_od, pk_ot, pk_n, dOf_int, dOf_bl, dOf_str, dOf_non, opI0_int, opI_int, unI_int, asB_bl, asI_int, asL_lst, asT_tup, asW_web, eqS_int, eqS_str, ixL_lst, ixT_tup, ixQ_lst, ixQ_tup, lenD_lst, lenD_tup, listD_lst, listD_tup, catD_lst, rng1_int, rng2_int, sName_go, sTup_go, sCons_go, sNil_go, bTup_go, bCons_go, bNil_go, two_go, List.set_cons_zero, List.set_cons_succ, List.getElem?_cons_zero, List.getElem?_cons_succ, Option.join_some, atI_0, atI_1, atI_2, decide_eq_true_eq, wipeE, List.map_cons, List.map_nil, step_nx, step_ct, step_bk, step_rt, step_rl, step_er, vOf_int, vOf_str]
      by_cases h : p > 81
      · rw [if_pos h] at hq
        rw [if_pos h]
        exact hq
      · rw [if_neg h] at hq
        rw [if_neg h]
        exact hq
    · exact hq.elim
abbrev sbeside : Stmt := topS 20
def bsdM : List D → M Rx
  | [.web n As Ms, .web m Bs Ns] => M.bnd (M.req (WebK n As Ms ∧ n ≤ 81 ∧ WebK m Bs Ns ∧ m ≤ 81 ∧ As.length + Bs.length ≤ 3900 ∧ Ms.length + Ns.length ≤ 3900)) fun _ => if n + m > 81 then M.ret (.er ⟨"TooMany", "bound", .int 81⟩) else M.bnd (M.all fun u : List Ks × List Ks => SrtK (As ++ Bs.map (shK n)) u.1 ∧ SrtK (Ms ++ Ns.map (shK n)) u.2) fun u => M.ret (.ok (.web (n + m) u.1 u.2))
  | _ => M.fail
theorem len_bsd {ds : List D} {Q : _ → Prop} (h : (bsdM ds).run Q) : ds.length = 2 := by
  unfold bsdM at h
  split at h
  · rfl
  · exact h.elim
abbrev N_bsd : List Str := ["one", "other", "ahead", "arrows", "colour", "start", "end", "marks", "mark", "point"]
theorem sc_bsd : FnScope N_bsd ["one", "other"] (defScope sbeside) := ⟨rfl, rfl, rfl, by decide +kernel, rfl, by decide +kernel, by decide +kernel⟩
theorem ok_bsd {f fR : Addr} {fd dR : FuncData} (F : Fun K "beside" "beside" sbeside f fd) {fP fA fM : Addr} {dP dA dM : FuncData} (c : Cls K C) (mPt : Mf P w K mg base 1 C "points" (spD (mkS K C T cls) ptsM) fP dP) (mAr : Mf P w K mg base 1 C "arrows" (spL (mkS K C T cls) arrM) fA dA) (mMr : Mf P w K mg base 1 C "marks" (spL (mkS K C T cls) mrkM) fM dM) {fI ta tm : Addr} {dI : FuncData} (gW : mg "Web" = some (.ref C)) (Mq : Mk K C fI) (FI : FunD K "__init__" "Web.__init__" (defArgs sInit) (defBody sInit) (defScope sInit) [] [("arrows", .ref ta), ("marks", .ref tm)] fI dI) (oI : FnOk P w K mg base CX0 2 fI dI psI (spInit K C)) (oR : DfX P w K mg base 3 "refuse_more_points" ["points"] (spX (mkS K C T cls) rmoM) fR dR) : FnOk P w K mg base (L2.CX P w) 4 f fd ["one", "other"] (spX (mkS K C T cls) bsdM) := by
  obtain ⟨mv2, k2⟩ := kb2 FI (fun z => nomatch z)
  refine F.okX sc_bsd (fun vs H Q E h => ?_) (fun cdv A outer s H vs Q E hr h => ?_)
  · obtain ⟨B, G, ds, _, r, h⟩ := h
    rw [r.length]
    exact len_bsd h
  · have hu5 : (A.deeper (envOfC "beside" (defScope sbeside) s.heap.objs.size f cdv)).units + 65 < cLine := by
      have := hr.un
      omega
    have hu : (A.deeper (envOfC "beside" (defScope sbeside) s.heap.objs.size f cdv)).units + 64 < cLine := by omega
    have hu1 : (A.deeper (envOfC "beside" (defScope sbeside) s.heap.objs.size f cdv)).units + 1 < cLine := by omega
    refine ⟨_, (pss_cons (ps_set (i := 2) sc_bsd.nd rfl (.inr rfl) (pe_meth0 (pv 0) c mPt.mt mPt.ok (hr.mono (by decide)) mPt.bd .nil pass0))
      (pss_cons (ps_expr (pe_call oR.ok (hr.mono (by decide)) (by rfl) oR.gl oR.kp oR.bd .nil (passE rfl rfl rfl rfl) (pa_cons (pe_op op_add (pv 2) (pe_meth0 (pv 1) c mPt.mt mPt.ok (hr.mono (by decide)) mPt.bd .nil pass0)) pa_nil)))
      (pss_cons (ps_setLc (i := 3) (own := [("colour", 4), ("start", 5), ("end", 6)]) (g := gTup K 3 (gCons (gName 4) (gCons (gName 5) (gCons (gName 6) gNil)))) (tt := tYes) rfl sc_bsd.nd rfl rfl (sw_true rfl rfl rfl (by decide +kernel)) (di_list (K := K) rfl (pe_meth0 (pv 1) c mAr.mt mAr.ok (hr.mono (by decide)) mAr.bd .nil pass0)) (blkOk_by (N := N_bsd) (sc := defScope sbeside) (by decide +kernel)) (fun _ _ _ _ _ => (dg_tup (K := K) (n := 3) rfl rfl (pgs_cons (pg_name (i := 4) sc_bsd.nd rfl (.inl rfl)) (pgs_cons (pg_name (i := 5) sc_bsd.nd rfl (.inl rfl)) (pgs_cons (pg_name (i := 6) sc_bsd.nd rfl (.inl rfl)) pgs_nil))))) (fun _ _ _ _ _ => pts_nil) (fun _ _ _ _ _ => (pe_tup (pa_cons (pv 4) (pa_cons (pe_op op_add (pv 5) (pv 2)) (pa_cons (pe_op op_add (pv 6) (pv 2)) pa_nil))))))
      (pss_cons (ps_setLc (i := 7) (own := [("mark", 8), ("point", 9)]) (g := gTup K 2 (gCons (gName 8) (gCons (gName 9) gNil))) (tt := tYes) rfl sc_bsd.nd rfl rfl (sw_true rfl rfl rfl (by decide +kernel)) (di_list (K := K) rfl (pe_meth0 (pv 1) c mMr.mt mMr.ok (hr.mono (by decide)) mMr.bd .nil pass0)) (blkOk_by (N := N_bsd) (sc := defScope sbeside) (by decide +kernel)) (fun _ _ _ _ _ => (dg_tup (K := K) (n := 2) rfl rfl (pgs_cons (pg_name (i := 8) sc_bsd.nd rfl (.inl rfl)) (pgs_cons (pg_name (i := 9) sc_bsd.nd rfl (.inl rfl)) pgs_nil)))) (fun _ _ _ _ _ => pts_nil) (fun _ _ _ _ _ => (pe_tup (pa_cons (pv 8) (pa_cons (pe_op op_add (pv 9) (pv 2)) pa_nil)))))
      (pss_one (ps_ret (pe_makeK Mq oI (hr.mono (by decide)) (by rfl) gW k2 pass0 (pa_cons (pe_op op_add (pv 2) (pe_meth0 (pv 1) c mPt.mt mPt.ok (hr.mono (by decide)) mPt.bd .nil pass0)) pa_nil) (pk_cons (pe_op op_cat (pe_meth0 (pv 0) c mAr.mt mAr.ok (hr.mono (by decide)) mAr.bd .nil pass0) (pv 3)) (pk_cons (pe_op op_cat (pe_meth0 (pv 0) c mMr.mt mMr.ok (hr.mono (by decide)) mMr.bd .nil pass0) (pv 7)) pk_nil))))))))), ?_⟩
    refine run_X (X := E) (S := mkS K C T cls) (N := N_bsd) (by walk_at "svN") ?_ h
    intro ds Q hq
    unfold bsdM at hq
    split at hq
    · rename_i n As Ms m Bs Ns
      obtain ⟨⟨w, hn, v, hm, la, lm⟩, hq⟩ := hq
      have n0 := w.n0
      have m0 := v.n0
      dsimp only at hq
      have e : startE N_bsd.length [.web n As Ms, .web m Bs Ns] = [some (.f (.web n As Ms)), some (.f (.web m Bs Ns)), none, none, none, none, none, none, none, none] := rfl
      rw [e]
      simp only [arr_go, mrk_go, pts_go, rmo_go, mk2_go, run_bnd, run_ret, run_opt, run_req, run_all, run_choose, run_ite, then_nx, then_rt, then_rl, then_er, then_ct, then_bk, outD_rt, outD_rl, outD_nx, outL_rl, outX_rt, outX_rl, outX_nx, outX_er, mask_nil, mask_cons, mk0_f, mk0_o, mk0_od, mk0_ot, mk0_n, peek_nil, peek_cons, pk_f, pk_o, pk_od, pk_ot, pk_n, dOf_int, dOf_bl, dOf_str, dOf_non, opI0_int, opI_int, unI_int, asB_bl, asI_int, asL_lst, asT_tup, asW_web, eqS_int, eqS_str, ixL_lst, ixT_tup, ixQ_lst, ixQ_tup, lenD_lst, lenD_tup, listD_lst, listD_tup, catD_lst, rng1_int, rng2_int, sName_go, sTup_go, sCons_go, sNil_go, bTup_go, bCons_go, bNil_go, two_go, List.set_cons_zero, List.set_cons_succ, List.getElem?_cons_zero, List.getElem?_cons_succ, Option.join_some, atI_0, atI_1, atI_2, decide_eq_true_eq, wipeE, List.map_cons, List.map_nil, step_nx, step_ct, step_bk, step_rt, step_rl, step_er, vOf_int, vOf_str]
      by_cases h : n + m > 81
      · rw [if_pos h] at hq
        simp only [if_pos h, ouX_er, outX_er, run_bnd, run_ret, run_opt, run_req, run_all, run_choose, run_ite, then_nx, then_rt, then_rl, then_er, then_ct, then_bk, outD_rt, outD_rl, outD_nx, outL_rl, outX_rt, outX_rl, outX_nx, outX_er, mask_nil, mask_cons, mk0_f, mk0_o, mk0_od, mk0_ot, mk0_n, peek_nil, peek_cons, pk_f, pk_o, pk_od, pk_ot, pk_n, dOf_int, dOf_bl, dOf_str, dOf_non, opI0_int, opI_int, unI_int, asB_bl, asI_int, asL_lst, asT_tup, asW_web, eqS_int, eqS_str, ixL_lst, ixT_tup, ixQ_lst, ixQ_tup, lenD_lst, lenD_tup, listD_lst, listD_tup, catD_lst, rng1_int, rng2_int, sName_go, sTup_go, sCons_go, sNil_go, bTup_go, bCons_go, bNil_go, two_go, List.set_cons_zero, List.set_cons_succ, List.getElem?_cons_zero, List.getElem?_cons_succ, Option.join_some, atI_0, atI_1, atI_2, decide_eq_true_eq, wipeE, List.map_cons, List.map_nil, step_nx, step_ct, step_bk, step_rt, step_rl, step_er, vOf_int, vOf_str]
        exact hq
      · rw [if_neg h] at hq
        simp only [if_neg h, ouX_ok, arr_go, mrk_go, pts_go, mk2_go, run_bnd, run_ret, run_opt, run_req, run_all, run_choose, run_ite, then_nx, then_rt, then_rl, then_er, then_ct, then_bk, outD_rt, outD_rl, outD_nx, outL_rl, outX_rt, outX_rl, outX_nx, outX_er, mask_nil, mask_cons, mk0_f, mk0_o, mk0_od, mk0_ot, mk0_n, peek_nil, peek_cons, pk_f, pk_o, pk_od, pk_ot, pk_n, dOf_int, dOf_bl, dOf_str, dOf_non, opI0_int, opI_int, unI_int, asB_bl, asI_int, asL_lst, asT_tup, asW_web, eqS_int, eqS_str, ixL_lst, ixT_tup, ixQ_lst, ixQ_tup, lenD_lst, lenD_tup, listD_lst, listD_tup, catD_lst, rng1_int, rng2_int, sName_go, sTup_go, sCons_go, sNil_go, bTup_go, bCons_go, bNil_go, two_go, List.set_cons_zero, List.set_cons_succ, List.getElem?_cons_zero, List.getElem?_cons_succ, Option.join_some, atI_0, atI_1, atI_2, decide_eq_true_eq, wipeE, List.map_cons, List.map_nil, step_nx, step_ct, step_bk, step_rt, step_rl, step_er, vOf_int, vOf_str]
        refine ⟨by rw [List.length_map]; omega, ?_⟩
        refine ex_ret (M.sel_fltM (l := Bs) (g := tieD) (p := fun _ => true) (h := fun k => tieD (shK n k)) fun k hk => ?_) fun as has => ?_
        · obtain ⟨c, x, y, rfl, hc, x0, x1, y0, y1⟩ := v.ka k hk
          simp only [lcF_go, tieA', run_bnd, run_ret, run_opt, run_req, run_all, run_choose, run_ite, then_nx, then_rt, then_rl, then_er, then_ct, then_bk, outD_rt, outD_rl, outD_nx, outL_rl, outX_rt, outX_rl, outX_nx, outX_er, mask_nil, mask_cons, mk0_f, mk0_o, mk0_od, mk0_ot, mk0_n, peek_nil, peek_cons, pk_f, pk_o, pk_od, pk_ot, pk_n, dOf_int, dOf_bl, dOf_str, dOf_non, opI0_int, opI_int, unI_int, asB_bl, asI_int, asL_lst, asT_tup, asW_web, eqS_int, eqS_str, ixL_lst, ixT_tup, ixQ_lst, ixQ_tup, lenD_lst, lenD_tup, listD_lst, listD_tup, catD_lst, rng1_int, rng2_int, sName_go, sTup_go, sCons_go, sNil_go, bTup_go, bCons_go, bNil_go, two_go, List.set_cons_zero, List.set_cons_succ, List.getElem?_cons_zero, List.getElem?_cons_succ, Option.join_some, atI_0, atI_1, atI_2, decide_eq_true_eq, wipeE, List.map_cons, List.map_nil, step_nx, step_ct, step_bk, step_rt, step_rl, step_er, vOf_int, vOf_str, if_true]
          exact ⟨rfl, by show 3 ≤ 100000; decide, rfl⟩
        have ha : as = (Bs.map (shK n)).map tieD := by
          rw [has, List.filter_eq_self.mpr fun _ _ => rfl, List.map_map]
          rfl
        subst ha
        refine ⟨by rw [List.length_map]; omega, ?_⟩
        refine ex_ret (M.sel_fltM (l := Ns) (g := tieD) (p := fun _ => true) (h := fun k => tieD (shK n k)) fun k hk => ?_) fun bs hbs => ?_
        · obtain ⟨c, x, rfl, hc, x0, x1⟩ := v.km k hk
          simp only [lcF_go, tieM', run_bnd, run_ret, run_opt, run_req, run_all, run_choose, run_ite, then_nx, then_rt, then_rl, then_er, then_ct, then_bk, outD_rt, outD_rl, outD_nx, outL_rl, outX_rt, outX_rl, outX_nx, outX_er, mask_nil, mask_cons, mk0_f, mk0_o, mk0_od, mk0_ot, mk0_n, peek_nil, peek_cons, pk_f, pk_o, pk_od, pk_ot, pk_n, dOf_int, dOf_bl, dOf_str, dOf_non, opI0_int, opI_int, unI_int, asB_bl, asI_int, asL_lst, asT_tup, asW_web, eqS_int, eqS_str, ixL_lst, ixT_tup, ixQ_lst, ixQ_tup, lenD_lst, lenD_tup, listD_lst, listD_tup, catD_lst, rng1_int, rng2_int, sName_go, sTup_go, sCons_go, sNil_go, bTup_go, bCons_go, bNil_go, two_go, List.set_cons_zero, List.set_cons_succ, List.getElem?_cons_zero, List.getElem?_cons_succ, Option.join_some, atI_0, atI_1, atI_2, decide_eq_true_eq, wipeE, List.map_cons, List.map_nil, step_nx, step_ct, step_bk, step_rt, step_rl, step_er, vOf_int, vOf_str, if_true]
          exact ⟨rfl, by show 2 ≤ 100000; decide, rfl⟩
        have hb : bs = (Ns.map (shK n)).map tieD := by
          rw [hbs, List.filter_eq_self.mpr fun _ _ => rfl, List.map_map]
          rfl
        subst hb
        have la' : (As ++ Bs.map (shK n)).length ≤ 3900 := by rw [List.length_append, List.length_map]; exact la
        have lm' : (Ms ++ Ns.map (shK n)).length ≤ 3900 := by rw [List.length_append, List.length_map]; exact lm
        have gA : ∀ k ∈ As ++ Bs.map (shK n), AK (n + m) k := fun k hk => (List.mem_append.mp hk).elim (fun z => akUp (w.ka k z) (by omega)) (sh_A v.ka n0 k)
        have gM : ∀ k ∈ Ms ++ Ns.map (shK n), MK (n + m) k := fun k hk => (List.mem_append.mp hk).elim (fun z => mkUp (w.km k z) (by omega)) (sh_M v.km n0 k)
        simp only [List.length_map]
        refine ⟨by omega, by omega, (As ++ Bs.map (shK n), Ms ++ Ns.map (shK n)), ⟨?_, ?_, by omega, by omega, gA, gM, by show (As ++ Bs.map (shK n)).length < 4000; omega, by show (Ms ++ Ns.map (shK n)).length < 4000; omega⟩, fun u hu => hq u hu⟩
        · rw [List.map_append]
        · rw [List.map_append]
    · exact hq.elim
abbrev stimes : Stmt := topS 21
def tmsM : List D → M Rx
  | [.web n As Ms, .web m Bs Ns] => M.bnd (M.req (WebK n As Ms ∧ n ≤ 81 ∧ WebK m Bs Ns ∧ m ≤ 81 ∧ As.length ≤ 300 ∧ Bs.length ≤ 300 ∧ Ms.length ≤ 300 ∧ Ns.length ≤ 300 ∧ As.length * Bs.length ≤ 3900 ∧ Ms.length * Ns.length ≤ 3900)) fun _ => if n * m > 81 then M.ret (.er ⟨"TooMany", "bound", .int 81⟩) else M.bnd (M.all fun u : List Ks × List Ks => SrtK (prL m As Bs) u.1 ∧ SrtK (prL m Ms Ns) u.2) fun u => M.ret (.ok (.web (n * m) u.1 u.2))
  | _ => M.fail
local macro_rules | `(tactic| walk_at "el2") => `(tactic| (focus (with_reducible apply el_lc2; rotate_left; rotate_left; walk_at "ei"; walk_at "eg"; walk_at "et"; walk_at "ei"; walk_at "eg"; walk_at "et"; walk_at "ed"; decide; decide)))
local macro_rules | `(tactic| walk_at "svW") => `(tactic| first
  | (with_reducible apply sv_seq; walk_at "svW"; walk_at "svW")
  | (with_reducible apply sv_dropX; walk_at "ex")
  | (focus (with_reducible apply sv_asgL; walk_at "el2"))
  | (with_reducible apply sv_asg; walk_at "ed")
  | walk_at "svN")
theorem len_tms {ds : List D} {Q : _ → Prop} (h : (tmsM ds).run Q) : ds.length = 2 := by
  unfold tmsM at h
  split at h
  · rfl
  · exact h.elim
abbrev N_tms : List Str := ["one", "other", "wide", "arrows", "colour", "start", "end", "tint", "begin", "stop", "marks", "mark", "point", "sign", "place"]
theorem sc_tms : FnScope N_tms ["one", "other"] (defScope stimes) := ⟨rfl, rfl, rfl, by decide +kernel, rfl, by decide +kernel, by decide +kernel⟩
theorem ok_tms {f fR : Addr} {fd dR : FuncData} (F : Fun K "times" "times" stimes f fd) {fP fA fM : Addr} {dP dA dM : FuncData} (c : Cls K C) (mPt : Mf P w K mg base 1 C "points" (spD (mkS K C T cls) ptsM) fP dP) (mAr : Mf P w K mg base 1 C "arrows" (spL (mkS K C T cls) arrM) fA dA) (mMr : Mf P w K mg base 1 C "marks" (spL (mkS K C T cls) mrkM) fM dM) {fI ta tm : Addr} {dI : FuncData} (gW : mg "Web" = some (.ref C)) (Mq : Mk K C fI) (FI : FunD K "__init__" "Web.__init__" (defArgs sInit) (defBody sInit) (defScope sInit) [] [("arrows", .ref ta), ("marks", .ref tm)] fI dI) (oI : FnOk P w K mg base CX0 2 fI dI psI (spInit K C)) (oR : DfX P w K mg base 3 "refuse_more_points" ["points"] (spX (mkS K C T cls) rmoM) fR dR) : FnOk P w K mg base (L2.CX P w) 4 f fd ["one", "other"] (spX (mkS K C T cls) tmsM) := by
  obtain ⟨mv2, k2⟩ := kb2 FI (fun z => nomatch z)
  refine F.okX sc_tms (fun vs H Q E h => ?_) (fun cdv A outer s H vs Q E hr h => ?_)
  · obtain ⟨B, G, ds, _, r, h⟩ := h
    rw [r.length]
    exact len_tms h
  · have hu5 : (A.deeper (envOfC "times" (defScope stimes) s.heap.objs.size f cdv)).units + 65 < cLine := by
      have := hr.un
      omega
    have hu : (A.deeper (envOfC "times" (defScope stimes) s.heap.objs.size f cdv)).units + 64 < cLine := by omega
    have hu1 : (A.deeper (envOfC "times" (defScope stimes) s.heap.objs.size f cdv)).units + 1 < cLine := by omega
    refine ⟨_, (pss_cons (ps_set (i := 2) sc_tms.nd rfl (.inr rfl) (pe_meth0 (pv 1) c mPt.mt mPt.ok (hr.mono (by decide)) mPt.bd .nil pass0))
      (pss_cons (ps_expr (pe_call oR.ok (hr.mono (by decide)) (by rfl) oR.gl oR.kp oR.bd .nil (passE rfl rfl rfl rfl) (pa_cons (pe_op op_mul (pe_meth0 (pv 0) c mPt.mt mPt.ok (hr.mono (by decide)) mPt.bd .nil pass0) (pv 2)) pa_nil)))
      (pss_cons (ps_setLc2 (i := 3) (own := [("colour", 4), ("start", 5), ("end", 6), ("tint", 7), ("begin", 8), ("stop", 9)]) (vs1 := [7, 8, 9]) (g := gTup K 3 (gCons (gName 4) (gCons (gName 5) (gCons (gName 6) gNil)))) (tt := tYes) (g1 := gTup K 3 (gCons (gName 7) (gCons (gName 8) (gCons (gName 9) gNil)))) (tt1 := _) rfl sc_tms.nd rfl rfl (sw_true rfl rfl rfl (by decide +kernel)) (di_list (K := K) rfl (pe_meth0 (pv 0) c mAr.mt mAr.ok (hr.mono (by decide)) mAr.bd .nil pass0)) (blkOk_by (N := N_tms) (sc := defScope stimes) (by decide +kernel)) (by decide) (fun _ _ _ _ _ => (dg_tup (K := K) (n := 3) rfl rfl (pgs_cons (pg_name (i := 4) sc_tms.nd rfl (.inl rfl)) (pgs_cons (pg_name (i := 5) sc_tms.nd rfl (.inl rfl)) (pgs_cons (pg_name (i := 6) sc_tms.nd rfl (.inl rfl)) pgs_nil))))) (fun _ _ _ _ _ => pts_nil) (fun _ _ _ _ _ => (di_list (K := K) rfl (pe_meth0 (pv 1) c mAr.mt mAr.ok (hr.mono (by decide)) mAr.bd .nil pass0))) (fun _ _ _ _ _ => (dg_tup (K := K) (n := 3) rfl rfl (pgs_cons (pg_name (i := 7) sc_tms.nd rfl (.inl rfl)) (pgs_cons (pg_name (i := 8) sc_tms.nd rfl (.inl rfl)) (pgs_cons (pg_name (i := 9) sc_tms.nd rfl (.inl rfl)) pgs_nil))))) (fun _ _ _ _ _ => pts_one (pt_cmpR op_eq (pv 7) (pv 4) (nomark _))) (fun _ _ _ _ _ => (pe_tup (pa_cons (pv 4) (pa_cons (pe_op op_add (pe_op op_mul (pv 5) (pv 2)) (pv 8)) (pa_cons (pe_op op_add (pe_op op_mul (pv 6) (pv 2)) (pv 9)) pa_nil))))))
      (pss_cons (ps_setLc2 (i := 10) (own := [("mark", 11), ("point", 12), ("sign", 13), ("place", 14)]) (vs1 := [13, 14]) (g := gTup K 2 (gCons (gName 11) (gCons (gName 12) gNil))) (tt := tYes) (g1 := gTup K 2 (gCons (gName 13) (gCons (gName 14) gNil))) (tt1 := _) rfl sc_tms.nd rfl rfl (sw_true rfl rfl rfl (by decide +kernel)) (di_list (K := K) rfl (pe_meth0 (pv 0) c mMr.mt mMr.ok (hr.mono (by decide)) mMr.bd .nil pass0)) (blkOk_by (N := N_tms) (sc := defScope stimes) (by decide +kernel)) (by decide) (fun _ _ _ _ _ => (dg_tup (K := K) (n := 2) rfl rfl (pgs_cons (pg_name (i := 11) sc_tms.nd rfl (.inl rfl)) (pgs_cons (pg_name (i := 12) sc_tms.nd rfl (.inl rfl)) pgs_nil)))) (fun _ _ _ _ _ => pts_nil) (fun _ _ _ _ _ => (di_list (K := K) rfl (pe_meth0 (pv 1) c mMr.mt mMr.ok (hr.mono (by decide)) mMr.bd .nil pass0))) (fun _ _ _ _ _ => (dg_tup (K := K) (n := 2) rfl rfl (pgs_cons (pg_name (i := 13) sc_tms.nd rfl (.inl rfl)) (pgs_cons (pg_name (i := 14) sc_tms.nd rfl (.inl rfl)) pgs_nil)))) (fun _ _ _ _ _ => pts_one (pt_cmpR op_eq (pv 13) (pv 11) (nomark _))) (fun _ _ _ _ _ => (pe_tup (pa_cons (pv 11) (pa_cons (pe_op op_add (pe_op op_mul (pv 12) (pv 2)) (pv 14)) pa_nil)))))
      (pss_one (ps_ret (pe_makeK Mq oI (hr.mono (by decide)) (by rfl) gW k2 pass0 (pa_cons (pe_op op_mul (pe_meth0 (pv 0) c mPt.mt mPt.ok (hr.mono (by decide)) mPt.bd .nil pass0) (pv 2)) pa_nil) (pk_cons (pv 3) (pk_cons (pv 10) pk_nil))))))))), ?_⟩
    refine run_X (X := E) (S := mkS K C T cls) (N := N_tms) (by walk_at "svW") ?_ h
    intro ds Q hq
    unfold tmsM at hq
    split at hq
    · rename_i n As Ms m Bs Ns
      obtain ⟨⟨w, hn, v, hm, la, lb, lm, ln, lab, lmn⟩, hq⟩ := hq
      have n0 := w.n0
      have m0 := v.n0
      dsimp only at hq
      have e : startE N_tms.length [.web n As Ms, .web m Bs Ns] = [some (.f (.web n As Ms)), some (.f (.web m Bs Ns)), none, none, none, none, none, none, none, none, none, none, none, none, none] := rfl
      rw [e]
      simp only [arr_go, mrk_go, pts_go, rmo_go, mk2_go, run_bnd, run_ret, run_opt, run_req, run_all, run_choose, run_ite, then_nx, then_rt, then_rl, then_er, then_ct, then_bk, outD_rt, outD_rl, outD_nx, outL_rl, outX_rt, outX_rl, outX_nx, outX_er, mask_nil, mask_cons, mk0_f, mk0_o, mk0_od, mk0_ot, mk0_n, peek_nil, peek_cons, pk_f, pk_o, pk_od, pk_ot, pk_n, dOf_int, dOf_bl, dOf_str, dOf_non, opI0_int, opI_int, unI_int, asB_bl, asI_int, asL_lst, asT_tup, asW_web, eqS_int, eqS_str, ixL_lst, ixT_tup, ixQ_lst, ixQ_tup, lenD_lst, lenD_tup, listD_lst, listD_tup, catD_lst, rng1_int, rng2_int, sName_go, sTup_go, sCons_go, sNil_go, bTup_go, bCons_go, bNil_go, two_go, List.set_cons_zero, List.set_cons_succ, List.getElem?_cons_zero, List.getElem?_cons_succ, Option.join_some, atI_0, atI_1, atI_2, decide_eq_true_eq, wipeE, List.map_cons, List.map_nil, step_nx, step_ct, step_bk, step_rt, step_rl, step_er, vOf_int, vOf_str]
      refine ⟨cmul n0 (by omega) m0 (by omega), ?_⟩
      by_cases h : n * m > 81
      · rw [if_pos h] at hq
        simp only [if_pos h, ouX_er, outX_er, run_bnd, run_ret, run_opt, run_req, run_all, run_choose, run_ite, then_nx, then_rt, then_rl, then_er, then_ct, then_bk, outD_rt, outD_rl, outD_nx, outL_rl, outX_rt, outX_rl, outX_nx, outX_er, mask_nil, mask_cons, mk0_f, mk0_o, mk0_od, mk0_ot, mk0_n, peek_nil, peek_cons, pk_f, pk_o, pk_od, pk_ot, pk_n, dOf_int, dOf_bl, dOf_str, dOf_non, opI0_int, opI_int, unI_int, asB_bl, asI_int, asL_lst, asT_tup, asW_web, eqS_int, eqS_str, ixL_lst, ixT_tup, ixQ_lst, ixQ_tup, lenD_lst, lenD_tup, listD_lst, listD_tup, catD_lst, rng1_int, rng2_int, sName_go, sTup_go, sCons_go, sNil_go, bTup_go, bCons_go, bNil_go, two_go, List.set_cons_zero, List.set_cons_succ, List.getElem?_cons_zero, List.getElem?_cons_succ, Option.join_some, atI_0, atI_1, atI_2, decide_eq_true_eq, wipeE, List.map_cons, List.map_nil, step_nx, step_ct, step_bk, step_rt, step_rl, step_er, vOf_int, vOf_str]
        exact hq
      · rw [if_neg h] at hq
        simp only [if_neg h, ouX_ok, arr_go, mrk_go, pts_go, mk2_go, run_bnd, run_ret, run_opt, run_req, run_all, run_choose, run_ite, then_nx, then_rt, then_rl, then_er, then_ct, then_bk, outD_rt, outD_rl, outD_nx, outL_rl, outX_rt, outX_rl, outX_nx, outX_er, mask_nil, mask_cons, mk0_f, mk0_o, mk0_od, mk0_ot, mk0_n, peek_nil, peek_cons, pk_f, pk_o, pk_od, pk_ot, pk_n, dOf_int, dOf_bl, dOf_str, dOf_non, opI0_int, opI_int, unI_int, asB_bl, asI_int, asL_lst, asT_tup, asW_web, eqS_int, eqS_str, ixL_lst, ixT_tup, ixQ_lst, ixQ_tup, lenD_lst, lenD_tup, listD_lst, listD_tup, catD_lst, rng1_int, rng2_int, sName_go, sTup_go, sCons_go, sNil_go, bTup_go, bCons_go, bNil_go, two_go, List.set_cons_zero, List.set_cons_succ, List.getElem?_cons_zero, List.getElem?_cons_succ, Option.join_some, atI_0, atI_1, atI_2, decide_eq_true_eq, wipeE, List.map_cons, List.map_nil, step_nx, step_ct, step_bk, step_rt, step_rl, step_er, vOf_int, vOf_str]
        refine ⟨by rw [List.length_map]; omega, ?_⟩
        refine ex_ret (M.cat_map (g := tieD) (h := fun k => (Bs.filterMap (prK m k)).map tieD) fun k hk => ?_) fun as has => ?_
        · obtain ⟨c, x, y, rfl, hc, x0, x1, y0, y1⟩ := w.ka k hk
          simp only [lcF2_go, tieA', arr_go, run_bnd, run_ret, run_opt, run_req, run_all, run_choose, run_ite, then_nx, then_rt, then_rl, then_er, then_ct, then_bk, outD_rt, outD_rl, outD_nx, outL_rl, outX_rt, outX_rl, outX_nx, outX_er, mask_nil, mask_cons, mk0_f, mk0_o, mk0_od, mk0_ot, mk0_n, peek_nil, peek_cons, pk_f, pk_o, pk_od, pk_ot, pk_n, dOf_int, dOf_bl, dOf_str, dOf_non, opI0_int, opI_int, unI_int, asB_bl, asI_int, asL_lst, asT_tup, asW_web, eqS_int, eqS_str, ixL_lst, ixT_tup, ixQ_lst, ixQ_tup, lenD_lst, lenD_tup, listD_lst, listD_tup, catD_lst, rng1_int, rng2_int, sName_go, sTup_go, sCons_go, sNil_go, bTup_go, bCons_go, bNil_go, two_go, List.set_cons_zero, List.set_cons_succ, List.getElem?_cons_zero, List.getElem?_cons_succ, Option.join_some, atI_0, atI_1, atI_2, decide_eq_true_eq, wipeE, List.map_cons, List.map_nil, step_nx, step_ct, step_bk, step_rt, step_rl, step_er, vOf_int, vOf_str, List.length_map, if_true]
          refine ⟨rfl, by omega, ?_⟩
          refine ex_ret (M.sel_fltM (l := Bs) (g := tieD) (p := fun k' => decide (k'.head? = some (.inr ⟨#[c]⟩))) (h := fun k' => tieD (match k' with | [c, .inl a, .inl b] => [c, .inl (x * m + a), .inl (y * m + b)] | k => k)) fun k' hk' => ?_) fun zs hz => ?_
          · obtain ⟨c', a, b', rfl, hc', a0, a1, b0, b1⟩ := v.ka k' hk'
            simp only [lcF_go, tieA', run_bnd, run_ret, run_opt, run_req, run_all, run_choose, run_ite, then_nx, then_rt, then_rl, then_er, then_ct, then_bk, outD_rt, outD_rl, outD_nx, outL_rl, outX_rt, outX_rl, outX_nx, outX_er, mask_nil, mask_cons, mk0_f, mk0_o, mk0_od, mk0_ot, mk0_n, peek_nil, peek_cons, pk_f, pk_o, pk_od, pk_ot, pk_n, dOf_int, dOf_bl, dOf_str, dOf_non, opI0_int, opI_int, unI_int, asB_bl, asI_int, asL_lst, asT_tup, asW_web, eqS_int, eqS_str, ixL_lst, ixT_tup, ixQ_lst, ixQ_tup, lenD_lst, lenD_tup, listD_lst, listD_tup, catD_lst, rng1_int, rng2_int, sName_go, sTup_go, sCons_go, sNil_go, bTup_go, bCons_go, bNil_go, two_go, List.set_cons_zero, List.set_cons_succ, List.getElem?_cons_zero, List.getElem?_cons_succ, Option.join_some, atI_0, atI_1, atI_2, decide_eq_true_eq, wipeE, List.map_cons, List.map_nil, step_nx, step_ct, step_bk, step_rt, step_rl, step_er, vOf_int, vOf_str]
            refine ⟨rfl, ?_⟩
            by_cases q : c' = c
            · subst q
              simp only [strEq_self, if_true, run_bnd, run_ret, run_opt, run_req, run_all, run_choose, run_ite, then_nx, then_rt, then_rl, then_er, then_ct, then_bk, outD_rt, outD_rl, outD_nx, outL_rl, outX_rt, outX_rl, outX_nx, outX_er, mask_nil, mask_cons, mk0_f, mk0_o, mk0_od, mk0_ot, mk0_n, peek_nil, peek_cons, pk_f, pk_o, pk_od, pk_ot, pk_n, dOf_int, dOf_bl, dOf_str, dOf_non, opI0_int, opI_int, unI_int, asB_bl, asI_int, asL_lst, asT_tup, asW_web, eqS_int, eqS_str, ixL_lst, ixT_tup, ixQ_lst, ixQ_tup, lenD_lst, lenD_tup, listD_lst, listD_tup, catD_lst, rng1_int, rng2_int, sName_go, sTup_go, sCons_go, sNil_go, bTup_go, bCons_go, bNil_go, two_go, List.set_cons_zero, List.set_cons_succ, List.getElem?_cons_zero, List.getElem?_cons_succ, Option.join_some, atI_0, atI_1, atI_2, decide_eq_true_eq, wipeE, List.map_cons, List.map_nil, step_nx, step_ct, step_bk, step_rt, step_rl, step_er, vOf_int, vOf_str]
              exact ⟨cmul x0 (by omega) m0 (by omega), cmul y0 (by omega) m0 (by omega), by show 3 ≤ 100000; decide, by rw [if_pos (by simp)]⟩
            · rw [if_neg fun z => q (strOne z)]
              rw [if_neg (by simp; exact q)]
          · rw [hz, ← pr_inA (n := n) v.ka, List.map_map]
            rfl
        have ha : as = (prL m As Bs).map tieD := by
          rw [has]
          unfold prL
          rw [List.map_flatMap]
        subst ha
        refine ⟨by rw [List.length_map]; omega, ?_⟩
        refine ex_ret (M.cat_map (g := tieD) (h := fun k => (Ns.filterMap (prK m k)).map tieD) fun k hk => ?_) fun bs hbs => ?_
        · obtain ⟨c, x, rfl, hc, x0, x1⟩ := w.km k hk
          simp only [lcF2_go, tieM', mrk_go, run_bnd, run_ret, run_opt, run_req, run_all, run_choose, run_ite, then_nx, then_rt, then_rl, then_er, then_ct, then_bk, outD_rt, outD_rl, outD_nx, outL_rl, outX_rt, outX_rl, outX_nx, outX_er, mask_nil, mask_cons, mk0_f, mk0_o, mk0_od, mk0_ot, mk0_n, peek_nil, peek_cons, pk_f, pk_o, pk_od, pk_ot, pk_n, dOf_int, dOf_bl, dOf_str, dOf_non, opI0_int, opI_int, unI_int, asB_bl, asI_int, asL_lst, asT_tup, asW_web, eqS_int, eqS_str, ixL_lst, ixT_tup, ixQ_lst, ixQ_tup, lenD_lst, lenD_tup, listD_lst, listD_tup, catD_lst, rng1_int, rng2_int, sName_go, sTup_go, sCons_go, sNil_go, bTup_go, bCons_go, bNil_go, two_go, List.set_cons_zero, List.set_cons_succ, List.getElem?_cons_zero, List.getElem?_cons_succ, Option.join_some, atI_0, atI_1, atI_2, decide_eq_true_eq, wipeE, List.map_cons, List.map_nil, step_nx, step_ct, step_bk, step_rt, step_rl, step_er, vOf_int, vOf_str, List.length_map, if_true]
          refine ⟨rfl, by omega, ?_⟩
          refine ex_ret (M.sel_fltM (l := Ns) (g := tieD) (p := fun k' => decide (k'.head? = some (.inr ⟨#[c]⟩))) (h := fun k' => tieD (match k' with | [c, .inl a] => [c, .inl (x * m + a)] | k => k)) fun k' hk' => ?_) fun zs hz => ?_
          · obtain ⟨c', a, rfl, hc', a0, a1⟩ := v.km k' hk'
            simp only [lcF_go, tieM', run_bnd, run_ret, run_opt, run_req, run_all, run_choose, run_ite, then_nx, then_rt, then_rl, then_er, then_ct, then_bk, outD_rt, outD_rl, outD_nx, outL_rl, outX_rt, outX_rl, outX_nx, outX_er, mask_nil, mask_cons, mk0_f, mk0_o, mk0_od, mk0_ot, mk0_n, peek_nil, peek_cons, pk_f, pk_o, pk_od, pk_ot, pk_n, dOf_int, dOf_bl, dOf_str, dOf_non, opI0_int, opI_int, unI_int, asB_bl, asI_int, asL_lst, asT_tup, asW_web, eqS_int, eqS_str, ixL_lst, ixT_tup, ixQ_lst, ixQ_tup, lenD_lst, lenD_tup, listD_lst, listD_tup, catD_lst, rng1_int, rng2_int, sName_go, sTup_go, sCons_go, sNil_go, bTup_go, bCons_go, bNil_go, two_go, List.set_cons_zero, List.set_cons_succ, List.getElem?_cons_zero, List.getElem?_cons_succ, Option.join_some, atI_0, atI_1, atI_2, decide_eq_true_eq, wipeE, List.map_cons, List.map_nil, step_nx, step_ct, step_bk, step_rt, step_rl, step_er, vOf_int, vOf_str]
            refine ⟨rfl, ?_⟩
            by_cases q : c' = c
            · subst q
              simp only [strEq_self, if_true, run_bnd, run_ret, run_opt, run_req, run_all, run_choose, run_ite, then_nx, then_rt, then_rl, then_er, then_ct, then_bk, outD_rt, outD_rl, outD_nx, outL_rl, outX_rt, outX_rl, outX_nx, outX_er, mask_nil, mask_cons, mk0_f, mk0_o, mk0_od, mk0_ot, mk0_n, peek_nil, peek_cons, pk_f, pk_o, pk_od, pk_ot, pk_n, dOf_int, dOf_bl, dOf_str, dOf_non, opI0_int, opI_int, unI_int, asB_bl, asI_int, asL_lst, asT_tup, asW_web, eqS_int, eqS_str, ixL_lst, ixT_tup, ixQ_lst, ixQ_tup, lenD_lst, lenD_tup, listD_lst, listD_tup, catD_lst, rng1_int, rng2_int, sName_go, sTup_go, sCons_go, sNil_go, bTup_go, bCons_go, bNil_go, two_go, List.set_cons_zero, List.set_cons_succ, List.getElem?_cons_zero, List.getElem?_cons_succ, Option.join_some, atI_0, atI_1, atI_2, decide_eq_true_eq, wipeE, List.map_cons, List.map_nil, step_nx, step_ct, step_bk, step_rt, step_rl, step_er, vOf_int, vOf_str]
              exact ⟨cmul x0 (by omega) m0 (by omega), by show 2 ≤ 100000; decide, by rw [if_pos (by simp)]⟩
            · rw [if_neg fun z => q (strOne z)]
              rw [if_neg (by simp; exact q)]
          · rw [hz, ← pr_inM (n := n) v.km, List.map_map]
            rfl
        have hb : bs = (prL m Ms Ns).map tieD := by
          rw [hbs]
          unfold prL
          rw [List.map_flatMap]
        subst hb
        have l1 := pr_lenI m As Bs
        have l2 := pr_lenI m Ms Ns
        refine ⟨cmul n0 (by omega) m0 (by omega), (prL m As Bs, prL m Ms Ns), ⟨rfl, rfl, Int.mul_nonneg n0 m0, by omega, pr_A w.ka v.ka, pr_M w.km v.km, by show (prL m As Bs).length < 4000; omega, by show (prL m Ms Ns).length < 4000; omega⟩, fun u hu => hq u hu⟩
    · exact hq.elim
end
end Dv
namespace Dv
open PySem PySem.Spec PyProof.Rows L2 RZ Sg Tm Wb
local macro_rules | `(tactic| walk_at "r2") => `(tactic| first | with_reducible exact r_I0 | with_reducible exact r_I | with_reducible exact r_eq | with_reducible exact r_ne | with_reducible exact r_isN | with_reducible exact r_notN | with_reducible exact r_ixL | with_reducible exact r_ixT | with_reducible exact r_ixQ | with_reducible exact r_eqD | with_reducible exact r_neD | with_reducible exact r_inD | with_reducible exact r_notInD | with_reducible exact r_isB | with_reducible exact r_notB)
local macro_rules | `(tactic| walk_at "r2l") => `(tactic| first | with_reducible exact r_cat)
local macro_rules | `(tactic| walk_at "rc") => `(tactic| first | with_reducible exact r_len | with_reducible exact r_all)
local macro_rules | `(tactic| walk_at "rcl") => `(tactic| first | with_reducible exact r_list)
local macro_rules | `(tactic| walk_at "eo") => `(tactic| first | with_reducible exact eo_none | (with_reducible apply eo_some; walk_at "ed"))
local macro_rules | `(tactic| walk_at "ea") => `(tactic| first | with_reducible exact ea_nil | (with_reducible apply ea_star; walk_at "ed"; walk_at "ea") | (with_reducible apply ea_cons; walk_at "ed"; walk_at "ea"))
local macro_rules | `(tactic| walk_at "et") => `(tactic| first
  | with_reducible exact et_yes
  | (with_reducible apply et_test; walk_at "ed") | (with_reducible apply et_B; walk_at "ed") | (with_reducible apply et_not; walk_at "et")
  | (with_reducible apply et_and; walk_at "et"; walk_at "et") | (with_reducible apply et_or; walk_at "et"; walk_at "et"))
local macro_rules | `(tactic| walk_at "eg") => `(tactic| first | with_reducible exact eg_name | (with_reducible apply eg_tup; walk_at "egs"))
local macro_rules | `(tactic| walk_at "egs") => `(tactic| first | with_reducible exact eg_nil | (with_reducible apply eg_cons; walk_at "eg"; walk_at "egs"))
local macro_rules | `(tactic| walk_at "es") => `(tactic| first | with_reducible exact es_name | (with_reducible apply es_tup; walk_at "ess"))
local macro_rules | `(tactic| walk_at "ess") => `(tactic| first | with_reducible exact es_nil | (with_reducible apply es_cons; walk_at "es"; walk_at "ess"))
local macro_rules | `(tactic| walk_at "ei") => `(tactic| first | (with_reducible apply ei_list; walk_at "ed") | (with_reducible apply ei_tup; walk_at "ed") | (with_reducible apply ei_rng1; walk_at "ea") | (with_reducible apply ei_rng2; walk_at "ea") | (with_reducible apply ei_str; walk_at "ed"))
local macro_rules | `(tactic| walk_at "el") => `(tactic| first
  | (with_reducible apply el_lst; walk_at "ea")
  | (focus (with_reducible apply el_lc; rotate_left; walk_at "ei"; walk_at "eg"; walk_at "et"; walk_at "ed"; decide))
  | (with_reducible apply el_op; walk_at "r2l"; walk_at "ed"; walk_at "ed")
  | (with_reducible apply el_cb; walk_at "rcl"; walk_at "ea")
  | (with_reducible apply el_sl; walk_at "ed"; walk_at "eo"; walk_at "eo")
  | (with_reducible apply el_call; walk_at "ea")
  | walk_at "el+"
  | (with_reducible apply el_meth; decide; walk_at "ed"; walk_at "ea"))
local macro_rules | `(tactic| walk_at "ed") => `(tactic| first
  | with_reducible exact ed_var | with_reducible exact ed_c
  | (with_reducible apply ed_op; walk_at "r2"; walk_at "ed"; walk_at "ed")
  | (with_reducible apply ed_call; walk_at "ea")
  | (with_reducible apply ed_callX; walk_at "ea")
  | (with_reducible apply ed_tup; walk_at "ea")
  | (with_reducible apply ed_if; walk_at "et"; walk_at "ed"; walk_at "ed")
  | (with_reducible apply ed_cb; walk_at "rc"; walk_at "ea")
  | (with_reducible apply ed_un r_U; walk_at "ed")
  | (with_reducible apply ed_chain; walk_at "r2"; walk_at "r2"; walk_at "ed"; walk_at "ed"; walk_at "ed")
  | (with_reducible apply ed_andV; walk_at "ed"; walk_at "ed") | (with_reducible apply ed_orV; walk_at "ed"; walk_at "ed")
  | (with_reducible apply ed_meth; decide; walk_at "ed"; walk_at "ea")
  | walk_at "ed+"
  | (with_reducible apply EvL.d; walk_at "el"))
local macro_rules | `(tactic| walk_at "svF") => `(tactic| first
  | (with_reducible apply sv_seq; walk_at "svF"; walk_at "svF")
  | (with_reducible apply sv_asg; walk_at "ed")
  | (with_reducible apply sv_if; walk_at "et"; walk_at "svF"; walk_at "svF")
  | (with_reducible apply sv_for; walk_at "ei"; walk_at "es"; walk_at "svF")
  | walk_at "sv")
local macro_rules | `(tactic| walk_at "sv") => `(tactic| first
  | with_reducible exact sv_next | with_reducible exact sv_break | with_reducible exact sv_cont | with_reducible exact sv_never | with_reducible exact sv_retN
  | (with_reducible apply sv_seq; walk_at "sv"; walk_at "sv")
  | (with_reducible apply sv_asgL; walk_at "el")
  | (with_reducible apply sv_asg; walk_at "ed")
  | (with_reducible apply sv_if; walk_at "et"; walk_at "sv"; walk_at "sv")
  | (with_reducible apply sv_for; walk_at "ei"; walk_at "es"; walk_at "sv")
  | (with_reducible apply sv_par; walk_at "ea")
  | (with_reducible apply sv_app; walk_at "ed")
  | (with_reducible apply sv_ret; walk_at "ed")
  | (with_reducible apply sv_asgT; walk_at "ed"; walk_at "es")
  | (with_reducible apply sv_drop; walk_at "ed"))
local macro_rules | `(tactic| walk_at "rc") => `(tactic| first | with_reducible exact r_len | with_reducible exact r_all | with_reducible exact r_max | with_reducible exact r_min)
local macro_rules | `(tactic| walk_at "rcl") => `(tactic| first | with_reducible exact r_list | with_reducible exact r_sort)
local macro_rules | `(tactic| walk_at "el+") => `(tactic| (with_reducible apply el_listRg; walk_at "ed"))
local macro_rules | `(tactic| walk_at "edm") => `(tactic| first | (with_reducible apply ed_index; walk_at "ed"; walk_at "ed") | (with_reducible apply ed_dget2; walk_at "ed"; walk_at "ed"; walk_at "ed") | with_reducible exact ed_disp2 | (with_reducible apply ed_chain; walk_at "r2"; walk_at "r2"; walk_at "ed"; walk_at "ed"; walk_at "ed"))
local macro_rules | `(tactic| walk_at "ed+") => `(tactic| walk_at "edm")
local macro_rules | `(tactic| walk_at "ex") => `(tactic| first | (with_reducible apply ex_callI; walk_at "ea") | (with_reducible apply ex_call; walk_at "ea") | (with_reducible apply ex_opL; walk_at "r2"; walk_at "ex"; walk_at "ed"))
local macro_rules | `(tactic| walk_at "svM") => `(tactic| first
  | (with_reducible apply sv_seq; walk_at "svM"; walk_at "svM")
  | (with_reducible apply sv_ins; walk_at "ed")
  | (with_reducible apply sv_asg; walk_at "ed")
  | (with_reducible apply sv_asgX; walk_at "ex")
  | (with_reducible apply sv_retX; walk_at "ex")
  | (with_reducible apply sv_if; walk_at "et"; walk_at "svM"; walk_at "svM")
  | (with_reducible apply sv_for; walk_at "ei"; walk_at "es"; walk_at "svM")
  | walk_at "sv")
theorem sh_flip {n m : Int} {l : List Ks} (h : ∀ k ∈ l, AK m k ∨ MK m k) : l.map (mvK fun i => n + i) = l.map (shK n) := by
  refine List.map_congr_left fun k hk => ?_
  rcases h k hk with ⟨c, x, y, rfl, _⟩ | ⟨c, x, rfl, _⟩
  · simp only [shK, mvA, Int.add_comm]
  · simp only [shK, mvM, Int.add_comm]
theorem prL_snoc (m : Int) (A B : List Ks) (k : Ks) : prL m (A ++ [k]) B = prL m A B ++ B.filterMap (prK m k) := by
  unfold prL
  rw [List.flatMap_append, List.flatMap_cons, List.flatMap_nil, List.append_nil]
section
variable {P : Program} {w : World} {K : PySem.W.Frag} {mg : Str → Option Value} {base : Heap} {C : Addr} {T : List (Addr × Str)} {cls : Str → Addr}
theorem unlS {n : Int} {ka kb : List Ks} {Q : D → Prop} (hn : 0 ≤ n ∧ n ≤ 81) (hka : ∀ k ∈ ka, AK n k) (hkb : ∀ k ∈ kb, MK n k) (la : ka.length ≤ 3900) (lb : kb.length ≤ 3900) (q : ∀ u : List Ks × List Ks, SrtK ka u.1 ∧ SrtK kb u.2 → Q (mwD n u.1 u.2)) : (unlM [.lst (ka.map tieD)]).run fun as => (unlM [.lst (kb.map tieD)]).run fun bs => Q (.tup [.int n, .lst as, .lst bs]) :=
  ⟨ka, ⟨rfl, ⟨3, fun k hk => (hka k hk).tie (by omega)⟩, by omega⟩, fun ua ha => ⟨kb, ⟨rfl, ⟨2, fun k hk => (hkb k hk).tie (by omega)⟩, by omega⟩, fun ub hb => q (ua, ub) ⟨ha, hb⟩⟩⟩
def lbsM : List D → M D
  | [.tup [.int n1, .lst a1, .lst m1], .tup [.int n2, .lst a2, .lst m2]] => M.bnd (M.choose fun p : List Ks × List Ks × List Ks × List Ks => a1 = p.1.map tieD ∧ m1 = p.2.1.map tieD ∧ a2 = p.2.2.1.map tieD ∧ m2 = p.2.2.2.map tieD ∧ WebK n1 p.1 p.2.1 ∧ WebK n2 p.2.2.1 p.2.2.2 ∧ n1 + n2 ≤ 81 ∧ p.1.length + p.2.2.1.length ≤ 3900 ∧ p.2.1.length + p.2.2.2.length ≤ 3900) fun p => M.bnd (M.all fun u : List Ks × List Ks => SrtK (p.1 ++ p.2.2.1.map (shK n1)) u.1 ∧ SrtK (p.2.1 ++ p.2.2.2.map (shK n1)) u.2) fun u => M.ret (mwD (n1 + n2) u.1 u.2)
  | _ => M.fail
theorem len_lbs {ds : List D} {Q : _ → Prop} (h : (lbsM ds).run Q) : ds.length = 2 := by
  unfold lbsM at h
  split at h
  · rfl
  · exact h.elim
abbrev N_lbs : List Str := ["_law_m", "_law_n", "_law_my_arrows", "_law_hue_here", "_law_my_one", "_law_my_other", "_law_my_marks", "_law_sign_here", "_law_point"]
theorem sc_lbs : FnScope N_lbs ["_law_m", "_law_n"] (defScope s_law_beside) := ⟨rfl, rfl, rfl, by decide +kernel, rfl, by decide +kernel, by decide +kernel⟩
theorem ok_lbs {f fU : Addr} {fd dU : FuncData} (F : Fun K "_law_beside" "_law_beside" s_law_beside f fd) (oU : Df P w K mg base 1 "_law_unlike" ["_law_some"] (spL (mkS K C T cls) unlM) fU dU) : FnOk P w K mg base CX0 2 f fd ["_law_m", "_law_n"] (spD (mkS K C T cls) lbsM) := by
  refine F.ok sc_lbs (fun vs H Q E h => ?_) (fun cdv A outer s H vs Q E hr h => ?_)
  · obtain ⟨B, G, ds, _, r, h⟩ := h
    rw [r.length]
    exact len_lbs h
  · have hu5 : (A.deeper (envOfC "_law_beside" (defScope s_law_beside) s.heap.objs.size f cdv)).units + 65 < cLine := by
      have := hr.un
      omega
    have hu : (A.deeper (envOfC "_law_beside" (defScope s_law_beside) s.heap.objs.size f cdv)).units + 64 < cLine := by omega
    have hu1 : (A.deeper (envOfC "_law_beside" (defScope s_law_beside) s.heap.objs.size f cdv)).units + 1 < cLine := by omega
    refine ⟨_, (pss_cons (ps_setLc (i := 2) (own := [("_law_hue_here", 3), ("_law_my_one", 4), ("_law_my_other", 5)]) (g := gTup K 3 (gCons (gName 3) (gCons (gName 4) (gCons (gName 5) gNil)))) (tt := tYes) rfl sc_lbs.nd rfl rfl (sw_true rfl rfl rfl (by decide +kernel)) (di_list (K := K) rfl (pe_ix (dx_tup (K := K) rfl) (pv 1) pe_int (fun _ _ => rfl))) (blkOk_by (N := N_lbs) (sc := defScope s_law_beside) (by decide +kernel)) (fun _ _ _ _ _ => (dg_tup (K := K) (n := 3) rfl rfl (pgs_cons (pg_name (i := 3) sc_lbs.nd rfl (.inl rfl)) (pgs_cons (pg_name (i := 4) sc_lbs.nd rfl (.inl rfl)) (pgs_cons (pg_name (i := 5) sc_lbs.nd rfl (.inl rfl)) pgs_nil))))) (fun _ _ _ _ _ => pts_nil) (fun _ _ _ _ _ => (pe_tup (pa_cons (pv 3) (pa_cons (pe_op op_add (pe_ix (dx_tup (K := K) rfl) (pv 0) pe_int (fun _ _ => rfl)) (pv 4)) (pa_cons (pe_op op_add (pe_ix (dx_tup (K := K) rfl) (pv 0) pe_int (fun _ _ => rfl)) (pv 5)) pa_nil))))))
      (pss_cons (ps_setLc (i := 6) (own := [("_law_sign_here", 7), ("_law_point", 8)]) (g := gTup K 2 (gCons (gName 7) (gCons (gName 8) gNil))) (tt := tYes) rfl sc_lbs.nd rfl rfl (sw_true rfl rfl rfl (by decide +kernel)) (di_list (K := K) rfl (pe_ix (dx_tup (K := K) rfl) (pv 1) pe_int (fun _ _ => rfl))) (blkOk_by (N := N_lbs) (sc := defScope s_law_beside) (by decide +kernel)) (fun _ _ _ _ _ => (dg_tup (K := K) (n := 2) rfl rfl (pgs_cons (pg_name (i := 7) sc_lbs.nd rfl (.inl rfl)) (pgs_cons (pg_name (i := 8) sc_lbs.nd rfl (.inl rfl)) pgs_nil)))) (fun _ _ _ _ _ => pts_nil) (fun _ _ _ _ _ => (pe_tup (pa_cons (pv 7) (pa_cons (pe_op op_add (pe_ix (dx_tup (K := K) rfl) (pv 0) pe_int (fun _ _ => rfl)) (pv 8)) pa_nil)))))
      (pss_one (ps_ret (pe_tup (pa_cons (pe_op op_add (pe_ix (dx_tup (K := K) rfl) (pv 0) pe_int (fun _ _ => rfl)) (pe_ix (dx_tup (K := K) rfl) (pv 1) pe_int (fun _ _ => rfl))) (pa_cons (pe_call oU.ok (hr.mono (by decide)) (by rfl) oU.gl oU.kp oU.bd .nil pass0 (pa_cons (pe_op op_cat (pe_ix (dx_tup (K := K) rfl) (pv 0) pe_int (fun _ _ => rfl)) (pv 2)) pa_nil)) (pa_cons (pe_call oU.ok (hr.mono (by decide)) (by rfl) oU.gl oU.kp oU.bd .nil pass0 (pa_cons (pe_op op_cat (pe_ix (dx_tup (K := K) rfl) (pv 0) pe_int (fun _ _ => rfl)) (pv 6)) pa_nil)) pa_nil)))))))), ?_⟩
    refine run_D (X := E) (S := mkS K C T cls) (N := N_lbs) (by walk_at "svM") ?_ h
    intro ds Q hq
    unfold lbsM at hq
    split at hq
    · obtain ⟨⟨A1, M1, A2, M2⟩, ⟨rfl, rfl, rfl, rfl, w1, w2, hn, hA, hM⟩, hq⟩ := hq
      rename_i n1 n2
      dsimp only at w1 w2 hA hM hq
      have n10 := w1.n0
      have n20 := w2.n0
      have e : startE N_lbs.length [.tup [.int n1, .lst (A1.map tieD), .lst (M1.map tieD)], .tup [.int n2, .lst (A2.map tieD), .lst (M2.map tieD)]] = [some (.f (.tup [.int n1, .lst (A1.map tieD), .lst (M1.map tieD)])), some (.f (.tup [.int n2, .lst (A2.map tieD), .lst (M2.map tieD)])), none, none, none, none, none, none, none] := rfl
      rw [e]
      simp only [run_bnd, run_ret, run_opt, run_req, run_all, run_choose, run_ite, then_nx, then_rt, then_rl, then_er, then_ct, then_bk, outD_rt, outD_rl, outD_nx, outL_rl, outX_rt, outX_rl, outX_nx, outX_er, mask_nil, mask_cons, mk0_f, mk0_o, mk0_od, mk0_ot, mk0_n, peek_nil, peek_cons, pk_f, pk_o, pk_od, pk_ot, pk_n, dOf_int, dOf_bl, dOf_str, dOf_non, opI0_int, opI_int, unI_int, asB_bl, asI_int, asL_lst, asT_tup, asW_web, eqS_int, eqS_str, ixL_lst, ixT_tup, ixQ_lst, ixQ_tup, lenD_lst, lenD_tup, listD_lst, listD_tup, catD_lst, rng1_int, rng2_int, sName_go, sTup_go, sCons_go, sNil_go, bTup_go, bCons_go, bNil_go, two_go, List.set_cons_zero, List.set_cons_succ, List.getElem?_cons_zero, List.getElem?_cons_succ, Option.join_some, atI_0, atI_1, atI_2, decide_eq_true_eq, wipeE, List.map_cons, List.map_nil, step_nx, step_ct, step_bk, step_rt, step_rl, step_er, vOf_int, vOf_str]
      refine ⟨by rw [List.length_map]; omega, ?_⟩
      refine ex_ret (M.sel_fltM (l := A2) (g := tieD) (p := fun _ => true) (h := fun k => tieD (mvK (fun i => n1 + i) k)) fun k hk => ?_) fun as has => ?_
      · obtain ⟨c, x, y, rfl, hc, x0, x1, y0, y1⟩ := w2.ka k hk
        simp only [lcF_go, tieA, run_bnd, run_ret, run_opt, run_req, run_all, run_choose, run_ite, then_nx, then_rt, then_rl, then_er, then_ct, then_bk, outD_rt, outD_rl, outD_nx, outL_rl, outX_rt, outX_rl, outX_nx, outX_er, mask_nil, mask_cons, mk0_f, mk0_o, mk0_od, mk0_ot, mk0_n, peek_nil, peek_cons, pk_f, pk_o, pk_od, pk_ot, pk_n, dOf_int, dOf_bl, dOf_str, dOf_non, opI0_int, opI_int, unI_int, asB_bl, asI_int, asL_lst, asT_tup, asW_web, eqS_int, eqS_str, ixL_lst, ixT_tup, ixQ_lst, ixQ_tup, lenD_lst, lenD_tup, listD_lst, listD_tup, catD_lst, rng1_int, rng2_int, sName_go, sTup_go, sCons_go, sNil_go, bTup_go, bCons_go, bNil_go, two_go, List.set_cons_zero, List.set_cons_succ, List.getElem?_cons_zero, List.getElem?_cons_succ, Option.join_some, atI_0, atI_1, atI_2, decide_eq_true_eq, wipeE, List.map_cons, List.map_nil, step_nx, step_ct, step_bk, step_rt, step_rl, step_er, vOf_int, vOf_str, if_true]
        exact ⟨rfl, by show 3 ≤ 100000; decide, rfl⟩
      have ha : as = (A2.map (shK n1)).map tieD := by
        rw [has, List.filter_eq_self.mpr fun _ _ => rfl, ← sh_flip (m := n2) fun k hk => .inl (w2.ka k hk), List.map_map]
        rfl
      subst ha
      refine ⟨by rw [List.length_map]; omega, ?_⟩
      refine ex_ret (M.sel_fltM (l := M2) (g := tieD) (p := fun _ => true) (h := fun k => tieD (mvK (fun i => n1 + i) k)) fun k hk => ?_) fun bs hbs => ?_
      · obtain ⟨c, x, rfl, hc, x0, x1⟩ := w2.km k hk
        simp only [lcF_go, tieM, run_bnd, run_ret, run_opt, run_req, run_all, run_choose, run_ite, then_nx, then_rt, then_rl, then_er, then_ct, then_bk, outD_rt, outD_rl, outD_nx, outL_rl, outX_rt, outX_rl, outX_nx, outX_er, mask_nil, mask_cons, mk0_f, mk0_o, mk0_od, mk0_ot, mk0_n, peek_nil, peek_cons, pk_f, pk_o, pk_od, pk_ot, pk_n, dOf_int, dOf_bl, dOf_str, dOf_non, opI0_int, opI_int, unI_int, asB_bl, asI_int, asL_lst, asT_tup, asW_web, eqS_int, eqS_str, ixL_lst, ixT_tup, ixQ_lst, ixQ_tup, lenD_lst, lenD_tup, listD_lst, listD_tup, catD_lst, rng1_int, rng2_int, sName_go, sTup_go, sCons_go, sNil_go, bTup_go, bCons_go, bNil_go, two_go, List.set_cons_zero, List.set_cons_succ, List.getElem?_cons_zero, List.getElem?_cons_succ, Option.join_some, atI_0, atI_1, atI_2, decide_eq_true_eq, wipeE, List.map_cons, List.map_nil, step_nx, step_ct, step_bk, step_rt, step_rl, step_er, vOf_int, vOf_str, if_true]
        exact ⟨rfl, by show 2 ≤ 100000; decide, rfl⟩
      have hb : bs = (M2.map (shK n1)).map tieD := by
        rw [hbs, List.filter_eq_self.mpr fun _ _ => rfl, ← sh_flip (m := n2) fun k hk => .inr (w2.km k hk), List.map_map]
        rfl
      subst hb
      simp only [List.length_map]
      have gA : ∀ k ∈ A1 ++ A2.map (shK n1), AK (n1 + n2) k := fun k hk => (List.mem_append.mp hk).elim (fun z => akUp (w1.ka k z) (by omega)) (sh_A w2.ka n10 k)
      have gM : ∀ k ∈ M1 ++ M2.map (shK n1), MK (n1 + n2) k := fun k hk => (List.mem_append.mp hk).elim (fun z => mkUp (w1.km k z) (by omega)) (sh_M w2.km n10 k)
      have lA : (A1 ++ A2.map (shK n1)).length ≤ 3900 := by rw [List.length_append, List.length_map]; exact hA
      have lM : (M1 ++ M2.map (shK n1)).length ≤ 3900 := by rw [List.length_append, List.length_map]; exact hM
      refine ⟨by omega, ?_⟩
      rw [← List.map_append, ← List.map_append]
      have := unlS (Q := fun d => outD Q (.rt d)) ⟨by omega, hn⟩ gA gM lA lM (fun u hu => hq u hu)
      refine ex_ret this fun as h2 => ⟨by omega, ?_⟩
      exact ex_ret h2 fun bs h3 => ⟨by show 3 ≤ 100000; decide, h3⟩
    · exact hq.elim
def ltsM : List D → M D
  | [.tup [.int n1, .lst a1, .lst m1], .tup [.int n2, .lst a2, .lst m2]] => M.bnd (M.choose fun p : List Ks × List Ks × List Ks × List Ks => a1 = p.1.map tieD ∧ m1 = p.2.1.map tieD ∧ a2 = p.2.2.1.map tieD ∧ m2 = p.2.2.2.map tieD ∧ WebK n1 p.1 p.2.1 ∧ WebK n2 p.2.2.1 p.2.2.2 ∧ n1 ≤ 81 ∧ n2 ≤ 81 ∧ n1 * n2 ≤ 81 ∧ p.1.length ≤ 300 ∧ p.2.2.1.length ≤ 300 ∧ p.2.1.length ≤ 300 ∧ p.2.2.2.length ≤ 300 ∧ p.1.length * p.2.2.1.length ≤ 3900 ∧ p.2.1.length * p.2.2.2.length ≤ 3900) fun p => M.bnd (M.all fun u : List Ks × List Ks => SrtK (prL n2 p.1 p.2.2.1) u.1 ∧ SrtK (prL n2 p.2.1 p.2.2.2) u.2) fun u => M.ret (mwD (n1 * n2) u.1 u.2)
  | _ => M.fail
theorem len_lts {ds : List D} {Q : _ → Prop} (h : (ltsM ds).run Q) : ds.length = 2 := by
  unfold ltsM at h
  split at h
  · rfl
  · exact h.elim
abbrev N_lts : List Str := ["_law_m", "_law_n", "_law_my_arrows", "_law_my_marks", "_law_hue_here", "_law_my_one", "_law_my_other", "_law_name", "_law_first", "_law_last", "_law_sign_here", "_law_point", "_law_spot"]
theorem sc_lts : FnScope N_lts ["_law_m", "_law_n"] (defScope s_law_times) := ⟨rfl, rfl, rfl, by decide +kernel, rfl, by decide +kernel, by decide +kernel⟩
theorem ok_lts {f fU : Addr} {fd dU : FuncData} (F : Fun K "_law_times" "_law_times" s_law_times f fd) (oU : Df P w K mg base 1 "_law_unlike" ["_law_some"] (spL (mkS K C T cls) unlM) fU dU) : FnOk P w K mg base CX0 2 f fd ["_law_m", "_law_n"] (spD (mkS K C T cls) ltsM) := by
  refine F.ok sc_lts (fun vs H Q E h => ?_) (fun cdv A outer s H vs Q E hr h => ?_)
  · obtain ⟨B, G, ds, _, r, h⟩ := h
    rw [r.length]
    exact len_lts h
  · have hu5 : (A.deeper (envOfC "_law_times" (defScope s_law_times) s.heap.objs.size f cdv)).units + 65 < cLine := by
      have := hr.un
      omega
    have hu : (A.deeper (envOfC "_law_times" (defScope s_law_times) s.heap.objs.size f cdv)).units + 64 < cLine := by omega
    have hu1 : (A.deeper (envOfC "_law_times" (defScope s_law_times) s.heap.objs.size f cdv)).units + 1 < cLine := by omega
    refine ⟨_, (pss_cons (ps_par (by rfl) sc_lts.nd (i := 2) (j := 3) rfl rfl (by decide) rfl rfl (pa_cons (pe_lst pa_nil) (pa_cons (pe_lst pa_nil) pa_nil)) (by rfl))
      (pss_cons (ps_for PassesOwn.never rfl (di_list (K := K) rfl (pe_ix (dx_tup (K := K) rfl) (pv 0) pe_int (fun _ _ => rfl))) (dg_tup (K := K) (n := 3) rfl rfl (pgs_cons (pg_name (i := 4) sc_lts.nd rfl (.inr rfl)) (pgs_cons (pg_name (i := 5) sc_lts.nd rfl (.inr rfl)) (pgs_cons (pg_name (i := 6) sc_lts.nd rfl (.inr rfl)) pgs_nil))))
      (pss_one (ps_set (i := 2) sc_lts.nd rfl (.inl rfl) (pe_op op_cat (pv 2) (pe_lc (own := [("_law_name", 7), ("_law_first", 8), ("_law_last", 9)]) (g := gTup K 3 (gCons (gName 7) (gCons (gName 8) (gCons (gName 9) gNil)))) (tt := _) rfl sc_lts.nd (di_list (K := K) rfl (pe_ix (dx_tup (K := K) rfl) (pv 1) pe_int (fun _ _ => rfl))) (blkOk_by (N := N_lts) (sc := defScope s_law_times) (by decide +kernel)) (fun _ _ _ _ _ => (dg_tup (K := K) (n := 3) rfl rfl (pgs_cons (pg_name (i := 7) sc_lts.nd rfl (.inl rfl)) (pgs_cons (pg_name (i := 8) sc_lts.nd rfl (.inl rfl)) (pgs_cons (pg_name (i := 9) sc_lts.nd rfl (.inl rfl)) pgs_nil))))) (fun _ _ _ _ _ => pts_one (pt_cmpR op_eq (pv 7) (pv 4) (nomark _))) (fun _ _ _ _ _ => (pe_tup (pa_cons (pv 4) (pa_cons (pe_op op_add (pe_op op_mul (pv 5) (pe_ix (dx_tup (K := K) rfl) (pv 1) pe_int (fun _ _ => rfl))) (pv 8)) (pa_cons (pe_op op_add (pe_op op_mul (pv 6) (pe_ix (dx_tup (K := K) rfl) (pv 1) pe_int (fun _ _ => rfl))) (pv 9)) pa_nil))))))))))
      (pss_cons (ps_for PassesOwn.never rfl (di_list (K := K) rfl (pe_ix (dx_tup (K := K) rfl) (pv 0) pe_int (fun _ _ => rfl))) (dg_tup (K := K) (n := 2) rfl rfl (pgs_cons (pg_name (i := 10) sc_lts.nd rfl (.inr rfl)) (pgs_cons (pg_name (i := 11) sc_lts.nd rfl (.inr rfl)) pgs_nil)))
      (pss_one (ps_set (i := 3) sc_lts.nd rfl (.inl rfl) (pe_op op_cat (pv 3) (pe_lc (own := [("_law_name", 7), ("_law_spot", 12)]) (g := gTup K 2 (gCons (gName 7) (gCons (gName 12) gNil))) (tt := _) rfl sc_lts.nd (di_list (K := K) rfl (pe_ix (dx_tup (K := K) rfl) (pv 1) pe_int (fun _ _ => rfl))) (blkOk_by (N := N_lts) (sc := defScope s_law_times) (by decide +kernel)) (fun _ _ _ _ _ => (dg_tup (K := K) (n := 2) rfl rfl (pgs_cons (pg_name (i := 7) sc_lts.nd rfl (.inl rfl)) (pgs_cons (pg_name (i := 12) sc_lts.nd rfl (.inl rfl)) pgs_nil)))) (fun _ _ _ _ _ => pts_one (pt_cmpR op_eq (pv 7) (pv 10) (nomark _))) (fun _ _ _ _ _ => (pe_tup (pa_cons (pv 10) (pa_cons (pe_op op_add (pe_op op_mul (pv 11) (pe_ix (dx_tup (K := K) rfl) (pv 1) pe_int (fun _ _ => rfl))) (pv 12)) pa_nil)))))))))
      (pss_one (ps_ret (pe_tup (pa_cons (pe_op op_mul (pe_ix (dx_tup (K := K) rfl) (pv 0) pe_int (fun _ _ => rfl)) (pe_ix (dx_tup (K := K) rfl) (pv 1) pe_int (fun _ _ => rfl))) (pa_cons (pe_call oU.ok (hr.mono (by decide)) (by rfl) oU.gl oU.kp oU.bd .nil pass0 (pa_cons (pv 2) pa_nil)) (pa_cons (pe_call oU.ok (hr.mono (by decide)) (by rfl) oU.gl oU.kp oU.bd .nil pass0 (pa_cons (pv 3) pa_nil)) pa_nil))))))))), ?_⟩
    refine run_D (X := E) (S := mkS K C T cls) (N := N_lts) (by walk_at "svM") ?_ h
    intro ds Q hq
    unfold ltsM at hq
    split at hq
    · obtain ⟨⟨A1, M1, A2, M2⟩, ⟨rfl, rfl, rfl, rfl, w1, w2, hn1, hn2, hn, l1, l2, k1, k2, hA, hM⟩, hq⟩ := hq
      rename_i n1 n2
      dsimp only at w1 w2 l1 l2 k1 k2 hA hM hq
      have n10 := w1.n0
      have n20 := w2.n0
      have e : startE N_lts.length [.tup [.int n1, .lst (A1.map tieD), .lst (M1.map tieD)], .tup [.int n2, .lst (A2.map tieD), .lst (M2.map tieD)]] = [some (.f (.tup [.int n1, .lst (A1.map tieD), .lst (M1.map tieD)])), some (.f (.tup [.int n2, .lst (A2.map tieD), .lst (M2.map tieD)])), none, none, none, none, none, none, none, none, none, none, none] := rfl
      rw [e]
      simp only [run_bnd, run_ret, run_opt, run_req, run_all, run_choose, run_ite, then_nx, then_rt, then_rl, then_er, then_ct, then_bk, outD_rt, outD_rl, outD_nx, outL_rl, outX_rt, outX_rl, outX_nx, outX_er, mask_nil, mask_cons, mk0_f, mk0_o, mk0_od, mk0_ot, mk0_n, peek_nil, peek_cons, pk_f, pk_o, pk_od, pk_ot, pk_n, dOf_int, dOf_bl, dOf_str, dOf_non, opI0_int, opI_int, unI_int, asB_bl, asI_int, asL_lst, asT_tup, asW_web, eqS_int, eqS_str, ixL_lst, ixT_tup, ixQ_lst, ixQ_tup, lenD_lst, lenD_tup, listD_lst, listD_tup, catD_lst, rng1_int, rng2_int, sName_go, sTup_go, sCons_go, sNil_go, bTup_go, bCons_go, bNil_go, two_go, List.set_cons_zero, List.set_cons_succ, List.getElem?_cons_zero, List.getElem?_cons_succ, Option.join_some, atI_0, atI_1, atI_2, decide_eq_true_eq, wipeE, List.map_cons, List.map_nil, step_nx, step_ct, step_bk, step_rt, step_rl, step_er, vOf_int, vOf_str]
      refine ⟨by show 0 ≤ 100000; decide, by show 0 ≤ 100000; decide, ?_⟩
      refine loop_run (fun i ρ => ∃ y4 y5 y6 y7 y8 y9 y10 y11 y12, ρ = [some (.f (.tup [.int n1, .lst (A1.map tieD), .lst (M1.map tieD)])), some (.f (.tup [.int n2, .lst (A2.map tieD), .lst (M2.map tieD)])), some (.f (.lst ((prL n2 (A1.take i) A2).map tieD))), some (.f (.lst (([]).map tieD))), y4, y5, y6, y7, y8, y9, y10, y11, y12]) ⟨_, _, _, _, _, _, _, _, _, rfl⟩ ?_ ?_
      · rintro i h ρ ⟨y4, y5, y6, y7, y8, y9, y10, y11, y12, rfl⟩
        rw [List.length_map] at h
        have b0 := pr_lenI n2 (A1.take i) A2
        have b1 : (A1.take i).length * A2.length ≤ A1.length * A2.length := Nat.mul_le_mul_right _ (by rw [List.length_take]; omega)
        have b2 := List.length_filterMap_le (prK n2 A1[i]) A2
        obtain ⟨c, x, y, ek, hc, x0, x1, y0, y1⟩ := w1.ka _ (List.getElem_mem h)
        simp only [List.getElem_map, ek, tieA, run_bnd, run_ret, run_opt, run_req, run_all, run_choose, run_ite, then_nx, then_rt, then_rl, then_er, then_ct, then_bk, outD_rt, outD_rl, outD_nx, outL_rl, outX_rt, outX_rl, outX_nx, outX_er, mask_nil, mask_cons, mk0_f, mk0_o, mk0_od, mk0_ot, mk0_n, peek_nil, peek_cons, pk_f, pk_o, pk_od, pk_ot, pk_n, dOf_int, dOf_bl, dOf_str, dOf_non, opI0_int, opI_int, unI_int, asB_bl, asI_int, asL_lst, asT_tup, asW_web, eqS_int, eqS_str, ixL_lst, ixT_tup, ixQ_lst, ixQ_tup, lenD_lst, lenD_tup, listD_lst, listD_tup, catD_lst, rng1_int, rng2_int, sName_go, sTup_go, sCons_go, sNil_go, bTup_go, bCons_go, bNil_go, two_go, List.set_cons_zero, List.set_cons_succ, List.getElem?_cons_zero, List.getElem?_cons_succ, Option.join_some, atI_0, atI_1, atI_2, decide_eq_true_eq, wipeE, List.map_cons, List.map_nil, step_nx, step_ct, step_bk, step_rt, step_rl, step_er, vOf_int, vOf_str]
        refine ⟨rfl, by rw [List.length_map]; omega, ?_⟩
        refine ex_ret (M.sel_fltM (l := A2) (g := tieD) (p := fun k' => decide (k'.head? = some (.inr ⟨#[c]⟩))) (h := fun k' => tieD (match k' with | [c, .inl a, .inl b] => [c, .inl (x * n2 + a), .inl (y * n2 + b)] | k => k)) fun k' hk' => ?_) fun bs hbs => ?_
        · obtain ⟨c', a, b', rfl, hc', a0, a1, b0, b1⟩ := w2.ka k' hk'
          simp only [lcF_go, tieA, run_bnd, run_ret, run_opt, run_req, run_all, run_choose, run_ite, then_nx, then_rt, then_rl, then_er, then_ct, then_bk, outD_rt, outD_rl, outD_nx, outL_rl, outX_rt, outX_rl, outX_nx, outX_er, mask_nil, mask_cons, mk0_f, mk0_o, mk0_od, mk0_ot, mk0_n, peek_nil, peek_cons, pk_f, pk_o, pk_od, pk_ot, pk_n, dOf_int, dOf_bl, dOf_str, dOf_non, opI0_int, opI_int, unI_int, asB_bl, asI_int, asL_lst, asT_tup, asW_web, eqS_int, eqS_str, ixL_lst, ixT_tup, ixQ_lst, ixQ_tup, lenD_lst, lenD_tup, listD_lst, listD_tup, catD_lst, rng1_int, rng2_int, sName_go, sTup_go, sCons_go, sNil_go, bTup_go, bCons_go, bNil_go, two_go, List.set_cons_zero, List.set_cons_succ, List.getElem?_cons_zero, List.getElem?_cons_succ, Option.join_some, atI_0, atI_1, atI_2, decide_eq_true_eq, wipeE, List.map_cons, List.map_nil, step_nx, step_ct, step_bk, step_rt, step_rl, step_er, vOf_int, vOf_str]
          refine ⟨rfl, ?_⟩
          by_cases q : c' = c
          · subst q
            simp only [strEq_self, if_true, run_bnd, run_ret, run_opt, run_req, run_all, run_choose, run_ite, then_nx, then_rt, then_rl, then_er, then_ct, then_bk, outD_rt, outD_rl, outD_nx, outL_rl, outX_rt, outX_rl, outX_nx, outX_er, mask_nil, mask_cons, mk0_f, mk0_o, mk0_od, mk0_ot, mk0_n, peek_nil, peek_cons, pk_f, pk_o, pk_od, pk_ot, pk_n, dOf_int, dOf_bl, dOf_str, dOf_non, opI0_int, opI_int, unI_int, asB_bl, asI_int, asL_lst, asT_tup, asW_web, eqS_int, eqS_str, ixL_lst, ixT_tup, ixQ_lst, ixQ_tup, lenD_lst, lenD_tup, listD_lst, listD_tup, catD_lst, rng1_int, rng2_int, sName_go, sTup_go, sCons_go, sNil_go, bTup_go, bCons_go, bNil_go, two_go, List.set_cons_zero, List.set_cons_succ, List.getElem?_cons_zero, List.getElem?_cons_succ, Option.join_some, atI_0, atI_1, atI_2, decide_eq_true_eq, wipeE, List.map_cons, List.map_nil, step_nx, step_ct, step_bk, step_rt, step_rl, step_er, vOf_int, vOf_str]
            exact ⟨cmul x0 (by omega) n20 (by omega), cmul y0 (by omega) n20 (by omega), by show 3 ≤ 100000; decide, by rw [if_pos (by simp)]⟩
          · rw [if_neg fun z => q (strOne z)]
            rw [if_neg (by simp; exact q)]
        have eb : bs = (A2.filterMap (prK n2 A1[i])).map tieD := by
          rw [hbs, ek, ← pr_inA (n := n1) w2.ka, List.map_map]
          rfl
        subst eb
        refine ⟨by rw [List.length_map, List.length_map]; omega, ?_⟩
        rw [take_snoc h, prL_snoc, List.map_append]
        exact ⟨_, _, _, _, _, _, _, _, _, rfl⟩
      · rintro ρ ⟨y4, y5, y6, y7, y8, y9, y10, y11, y12, rfl⟩
        rw [List.length_map, List.take_length]
        simp only [run_bnd, run_ret, run_opt, run_req, run_all, run_choose, run_ite, then_nx, then_rt, then_rl, then_er, then_ct, then_bk, outD_rt, outD_rl, outD_nx, outL_rl, outX_rt, outX_rl, outX_nx, outX_er, mask_nil, mask_cons, mk0_f, mk0_o, mk0_od, mk0_ot, mk0_n, peek_nil, peek_cons, pk_f, pk_o, pk_od, pk_ot, pk_n, dOf_int, dOf_bl, dOf_str, dOf_non, opI0_int, opI_int, unI_int, asB_bl, asI_int, asL_lst, asT_tup, asW_web, eqS_int, eqS_str, ixL_lst, ixT_tup, ixQ_lst, ixQ_tup, lenD_lst, lenD_tup, listD_lst, listD_tup, catD_lst, rng1_int, rng2_int, sName_go, sTup_go, sCons_go, sNil_go, bTup_go, bCons_go, bNil_go, two_go, List.set_cons_zero, List.set_cons_succ, List.getElem?_cons_zero, List.getElem?_cons_succ, Option.join_some, atI_0, atI_1, atI_2, decide_eq_true_eq, wipeE, List.map_cons, List.map_nil, step_nx, step_ct, step_bk, step_rt, step_rl, step_er, vOf_int, vOf_str]
        refine loop_run (fun i ρ => ∃ y4 y5 y6 y7 y8 y9 y10 y11 y12, ρ = [some (.f (.tup [.int n1, .lst (A1.map tieD), .lst (M1.map tieD)])), some (.f (.tup [.int n2, .lst (A2.map tieD), .lst (M2.map tieD)])), some (.f (.lst ((prL n2 A1 A2).map tieD))), some (.f (.lst ((prL n2 (M1.take i) M2).map tieD))), y4, y5, y6, y7, y8, y9, y10, y11, y12]) ⟨_, _, _, _, _, _, _, _, _, rfl⟩ ?_ ?_
        · rintro i h ρ ⟨y4, y5, y6, y7, y8, y9, y10, y11, y12, rfl⟩
          rw [List.length_map] at h
          have b0 := pr_lenI n2 (M1.take i) M2
          have b1 : (M1.take i).length * M2.length ≤ M1.length * M2.length := Nat.mul_le_mul_right _ (by rw [List.length_take]; omega)
          have b2 := List.length_filterMap_le (prK n2 M1[i]) M2
          obtain ⟨c, x, ek, hc, x0, x1⟩ := w1.km _ (List.getElem_mem h)
          simp only [List.getElem_map, ek, tieM, run_bnd, run_ret, run_opt, run_req, run_all, run_choose, run_ite, then_nx, then_rt, then_rl, then_er, then_ct, then_bk, outD_rt, outD_rl, outD_nx, outL_rl, outX_rt, outX_rl, outX_nx, outX_er, mask_nil, mask_cons, mk0_f, mk0_o, mk0_od, mk0_ot, mk0_n, peek_nil, peek_cons, pk_f, pk_o, pk_od, pk_ot, pk_n, dOf_int, dOf_bl, dOf_str, dOf_non, opI0_int, opI_int, unI_int, asB_bl, asI_int, asL_lst, asT_tup, asW_web, eqS_int, eqS_str, ixL_lst, ixT_tup, ixQ_lst, ixQ_tup, lenD_lst, lenD_tup, listD_lst, listD_tup, catD_lst, rng1_int, rng2_int, sName_go, sTup_go, sCons_go, sNil_go, bTup_go, bCons_go, bNil_go, two_go, List.set_cons_zero, List.set_cons_succ, List.getElem?_cons_zero, List.getElem?_cons_succ, Option.join_some, atI_0, atI_1, atI_2, decide_eq_true_eq, wipeE, List.map_cons, List.map_nil, step_nx, step_ct, step_bk, step_rt, step_rl, step_er, vOf_int, vOf_str]
          refine ⟨rfl, by rw [List.length_map]; omega, ?_⟩
          refine ex_ret (M.sel_fltM (l := M2) (g := tieD) (p := fun k' => decide (k'.head? = some (.inr ⟨#[c]⟩))) (h := fun k' => tieD (match k' with | [c, .inl a] => [c, .inl (x * n2 + a)] | k => k)) fun k' hk' => ?_) fun bs hbs => ?_
          · obtain ⟨c', a, rfl, hc', a0, a1⟩ := w2.km k' hk'
            simp only [lcF_go, tieM, run_bnd, run_ret, run_opt, run_req, run_all, run_choose, run_ite, then_nx, then_rt, then_rl, then_er, then_ct, then_bk, outD_rt, outD_rl, outD_nx, outL_rl, outX_rt, outX_rl, outX_nx, outX_er, mask_nil, mask_cons, mk0_f, mk0_o, mk0_od, mk0_ot, mk0_n, peek_nil, peek_cons, pk_f, pk_o, pk_od, pk_ot, pk_n, dOf_int, dOf_bl, dOf_str, dOf_non, opI0_int, opI_int, unI_int, asB_bl, asI_int, asL_lst, asT_tup, asW_web, eqS_int, eqS_str, ixL_lst, ixT_tup, ixQ_lst, ixQ_tup, lenD_lst, lenD_tup, listD_lst, listD_tup, catD_lst, rng1_int, rng2_int, sName_go, sTup_go, sCons_go, sNil_go, bTup_go, bCons_go, bNil_go, two_go, List.set_cons_zero, List.set_cons_succ, List.getElem?_cons_zero, List.getElem?_cons_succ, Option.join_some, atI_0, atI_1, atI_2, decide_eq_true_eq, wipeE, List.map_cons, List.map_nil, step_nx, step_ct, step_bk, step_rt, step_rl, step_er, vOf_int, vOf_str]
            refine ⟨rfl, ?_⟩
            by_cases q : c' = c
            · subst q
              simp only [strEq_self, if_true, run_bnd, run_ret, run_opt, run_req, run_all, run_choose, run_ite, then_nx, then_rt, then_rl, then_er, then_ct, then_bk, outD_rt, outD_rl, outD_nx, outL_rl, outX_rt, outX_rl, outX_nx, outX_er, mask_nil, mask_cons, mk0_f, mk0_o, mk0_od, mk0_ot, mk0_n, peek_nil, peek_cons, pk_f, pk_o, pk_od, pk_ot, pk_n, dOf_int, dOf_bl, dOf_str, dOf_non, opI0_int, opI_int, unI_int, asB_bl, asI_int, asL_lst, asT_tup, asW_web, eqS_int, eqS_str, ixL_lst, ixT_tup, ixQ_lst, ixQ_tup, lenD_lst, lenD_tup, listD_lst, listD_tup, catD_lst, rng1_int, rng2_int, sName_go, sTup_go, sCons_go, sNil_go, bTup_go, bCons_go, bNil_go, two_go, List.set_cons_zero, List.set_cons_succ, List.getElem?_cons_zero, List.getElem?_cons_succ, Option.join_some, atI_0, atI_1, atI_2, decide_eq_true_eq, wipeE, List.map_cons, List.map_nil, step_nx, step_ct, step_bk, step_rt, step_rl, step_er, vOf_int, vOf_str]
              exact ⟨cmul x0 (by omega) n20 (by omega), by show 2 ≤ 100000; decide, by rw [if_pos (by simp)]⟩
            · rw [if_neg fun z => q (strOne z)]
              rw [if_neg (by simp; exact q)]
          have eb : bs = (M2.filterMap (prK n2 M1[i])).map tieD := by
            rw [hbs, ek, ← pr_inM (n := n1) w2.km, List.map_map]
            rfl
          subst eb
          refine ⟨by rw [List.length_map, List.length_map]; omega, ?_⟩
          rw [take_snoc h, prL_snoc, List.map_append]
          exact ⟨_, _, _, _, _, _, _, _, _, rfl⟩
        · rintro ρ ⟨y4, y5, y6, y7, y8, y9, y10, y11, y12, rfl⟩
          rw [List.length_map, List.take_length]
          simp only [run_bnd, run_ret, run_opt, run_req, run_all, run_choose, run_ite, then_nx, then_rt, then_rl, then_er, then_ct, then_bk, outD_rt, outD_rl, outD_nx, outL_rl, outX_rt, outX_rl, outX_nx, outX_er, mask_nil, mask_cons, mk0_f, mk0_o, mk0_od, mk0_ot, mk0_n, peek_nil, peek_cons, pk_f, pk_o, pk_od, pk_ot, pk_n, dOf_int, dOf_bl, dOf_str, dOf_non, opI0_int, opI_int, unI_int, asB_bl, asI_int, asL_lst, asT_tup, asW_web, eqS_int, eqS_str, ixL_lst, ixT_tup, ixQ_lst, ixQ_tup, lenD_lst, lenD_tup, listD_lst, listD_tup, catD_lst, rng1_int, rng2_int, sName_go, sTup_go, sCons_go, sNil_go, bTup_go, bCons_go, bNil_go, two_go, List.set_cons_zero, List.set_cons_succ, List.getElem?_cons_zero, List.getElem?_cons_succ, Option.join_some, atI_0, atI_1, atI_2, decide_eq_true_eq, wipeE, List.map_cons, List.map_nil, step_nx, step_ct, step_bk, step_rt, step_rl, step_er, vOf_int, vOf_str]
          refine ⟨cmul n10 (by omega) n20 (by omega), ?_⟩
          have p1 := pr_lenI n2 A1 A2
          have p2 := pr_lenI n2 M1 M2
          have := unlS (Q := fun d => outD Q (.rt d)) ⟨Int.mul_nonneg n10 n20, hn⟩ (pr_A w1.ka w2.ka) (pr_M w1.km w2.km) (by omega) (by omega) (fun u hu => hq u hu)
          refine ex_ret this fun as h2 => ?_
          exact ex_ret h2 fun bs h3 => ⟨by show 3 ≤ 100000; decide, h3⟩
    · exact hq.elim
abbrev sWLen : Stmt := inClass (topS 15) 8
def LenR (K : PySem.W.Frag) (C : Addr) : Addr → Int → Hp → Prop := fun x n H => ∃ As Ms, WD K C H x n As Ms
theorem sc_wlen : FnScope ["self"] ["self"] (defScope sWLen) := ⟨rfl, rfl, rfl, by decide +kernel, rfl, by decide +kernel, by decide +kernel⟩
theorem ok_wlen {f : Addr} {fd : FuncData} (F : Fun K "__len__" "Web.__len__" sWLen f fd) (T : WT K mg C) (ml : mg "len" = none) : FnOk P w K mg base CX0 1 f fd ["self"] (Nq.spLen (LenR K C)) := by
  refine F.ok sc_wlen (fun vs H Q E h => ?_) (fun cdv A outer s H vs Q E hr h => ?_)
  · obtain ⟨x, n, rfl, _⟩ := h
    rfl
  · obtain ⟨x, n, rfl, ⟨As, Ms, U, V, w1, _, _⟩, KQ⟩ := h
    refine ⟨_, pss_one (ps_ret (pe_callB call_len_seq (by rfl) ml PySem.boot_len (pa_cons (pe_fld (pv 0) rfl) pa_nil))), ?_⟩
    have n0 := w1.n0
    obtain ⟨dx, pl, ar, mr, ow, bw, h1, h2, _⟩ := w1.w.ex
    refine ret_of ⟨_, rfl, x, C, dx, _, _, rfl, h1, T.cl, T.n1, rfl, pl, _, rfl, .inl (SqL.of h2), ?_⟩
    have e : ((rgV 0 n).length : Int) = n := by
      unfold rgV
      rw [List.length_map, List.length_range]
      omega
    rw [e]
    exact KQ
def lenW : List D → M D
  | [.web n _ _] => M.ret (.int n)
  | _ => M.fail
theorem lenW_go (n : Int) (As Ms : List Ks) : lenW [.web n As Ms] = M.ret (.int n) := rfl
theorem r_lenW {T : List (Addr × Str)} {cls : Str → Addr} : RCD (mkS K C T cls) (Nq.rLenI C (LenR K C)) lenW := fun B H G vs ds Q k r h => by
  unfold lenW at h
  split at h
  · rename_i n As Ms
    cases r with
    | cons a b =>
      cases b
      cases a with
      | web hw =>
        obtain ⟨U, V, w1, e1, e2⟩ := hw
        have w2 := w1.same k.sub
        obtain ⟨dx, pl, ar, mr, ow, bw, h1, _⟩ := w2.w.ex
        exact ⟨_, n, dx, _, rfl, h1, ⟨As, Ms, U, V, w2, e1, e2⟩, w2.n0, by have := w2.n1; omega, Rs1.now k h (.int n)⟩
  · exact h.elim
end
end Dv
namespace Dv
open PySem PySem.Spec PyProof.Rows L2 RZ Sg Tm Wb
section
variable {P : Program} {w : World} {K : PySem.W.Frag} {mg : Str → Option Value} {base : Heap} {C : Addr} {T : List (Addr × Str)} {cls : Str → Addr}
theorem bd_pos {f : Addr} {fd : FuncData} {ta tm : Addr} (F : FunD K "__init__" "Web.__init__" (defArgs sInit) (defBody sInit) (defScope sInit) [] [("arrows", .ref ta), ("marks", .ref tm)] f fd) : ∃ ds, Vals [V.ref ta, V.ref tm] ds ∧ Binds K fd psI ds := by
  refine F.binds0 2 (fun z => nomatch z) rfl ?_
  intro D doc pm an cdv ct us ks l1 l2
  match us, ks, l1, l2 with
  | [s, p], [a, m], _, _ => exact ⟨_, _, _, _, _, _, rfl, rfl, _, _, _, _, _, _, rfl, rfl, rfl⟩
def mk0M : List D → M D
  | [.int n] => M.bnd (M.req (0 ≤ n ∧ n ≤ 81)) fun _ => M.ret (.web n [] [])
  | _ => M.fail
theorem mk0M_go (n : Int) : mk0M [.int n] = M.bnd (M.req (0 ≤ n ∧ n ≤ 81)) fun _ => M.ret (.web n [] []) := rfl
theorem ed_mk0 {ta tm : Addr} {E : XK} (ea : ∀ H, SqT K H ta []) (em : ∀ H, SqT K H tm []) {t : TA} {m : Env → M (List D)} (h : EvA (mkS K C T cls) t m) : EvD (mkS K C T cls) (tMake C (spInit K C) [.ref ta, .ref tm] E t) (fun ρ => M.bnd (m ρ) mk0M) := fun B σ H G ρ Q k er q =>
  h B σ H G ρ _ k er ((m ρ).mono (fun l hl vs H1 G1 k1 c1 r1 => by
    have hl : (mk0M l).run (Rs1 (mkS K C T cls) B H G Q) := hl
    unfold mk0M at hl
    split at hl
    · rename_i n _
      obtain ⟨⟨h0, h1⟩, hq⟩ := hl
      cases r1 with
      | cons a b =>
        cases a
        cases b
        refine fun x dx nx ndx ne => ?_
        refine mk_use (ka := []) (km := []) nx ndx ne h0 h1 ⟨.inr (ea _), fun p hp => nomatch hp⟩ (fun p hp => nomatch hp) (by decide) ⟨.inr (em _), fun p hp => nomatch hp⟩ (fun p hp => nomatch hp) (by decide) fun J' As Ms W sA sM sm => ?_
        have eA : As = [] := by
          cases As with
          | nil => rfl
          | cons p _ => exact nomatch sA.of p (List.mem_cons_self ..)
        have eM : Ms = [] := by
          cases Ms with
          | nil => rfl
          | cons p _ => exact nomatch sM.of p (List.mem_cons_self ..)
        subst eA eM
        obtain ⟨k2, c2⟩ := newG_same k1 (show Sub H1 J' from sm)
        have w1 : WebAt C (fun a => match H1 a with | none => J' a | some _ => newG H1 J' G1 a) x n [] [] := W _ fun c o hc he => by
          show (match H1 c with | none => J' c | some _ => _) = _
          rw [hc]; exact he
        have w2 : WebAt C (newG H1 J' G1) x n [] [] := w1.extN fun b o hb hn => by
          cases hh : H1 b with
          | none =>
            simp only [hh] at hb
            rw [newG_none hh, hb]
            exact noTab_go hn
          | some u =>
            simp only [hh] at hb
            exact hb
        exact (show Rs1 _ B H G Q (.web n [] []) from hq) _ J' _ k2 (c1.trans c2) (.web ⟨[], [], ⟨w2, (fun z hz => nomatch hz), (fun z hz => nomatch hz), (fun z hz => nomatch hz), (fun z hz => nomatch hz), by decide, by decide, h0, h1⟩, rfl, rfl⟩)
    · exact hl.elim) q)
end
end Dv
namespace Dv
open PySem PySem.Spec PyProof.Rows L2 RZ Sg Tm Wb
local macro_rules | `(tactic| walk_at "r2") => `(tactic| first | with_reducible exact r_I0 | with_reducible exact r_I | with_reducible exact r_eq | with_reducible exact r_ne | with_reducible exact r_isN | with_reducible exact r_notN | with_reducible exact r_ixL | with_reducible exact r_ixT | with_reducible exact r_ixQ | with_reducible exact r_eqD | with_reducible exact r_neD | with_reducible exact r_inD | with_reducible exact r_notInD | with_reducible exact r_isB | with_reducible exact r_notB)
local macro_rules | `(tactic| walk_at "r2l") => `(tactic| first | with_reducible exact r_cat)
local macro_rules | `(tactic| walk_at "rc") => `(tactic| first | with_reducible exact r_len | with_reducible exact r_all)
local macro_rules | `(tactic| walk_at "rcl") => `(tactic| first | with_reducible exact r_list)
local macro_rules | `(tactic| walk_at "eo") => `(tactic| first | with_reducible exact eo_none | (with_reducible apply eo_some; walk_at "ed"))
local macro_rules | `(tactic| walk_at "ea") => `(tactic| first | with_reducible exact ea_nil | (with_reducible apply ea_star; walk_at "ed"; walk_at "ea") | (with_reducible apply ea_cons; walk_at "ed"; walk_at "ea"))
local macro_rules | `(tactic| walk_at "et") => `(tactic| first
  | with_reducible exact et_yes
  | (with_reducible apply et_test; walk_at "ed") | (with_reducible apply et_B; walk_at "ed") | (with_reducible apply et_not; walk_at "et")
  | (with_reducible apply et_and; walk_at "et"; walk_at "et") | (with_reducible apply et_or; walk_at "et"; walk_at "et"))
local macro_rules | `(tactic| walk_at "eg") => `(tactic| first | with_reducible exact eg_name | (with_reducible apply eg_tup; walk_at "egs"))
local macro_rules | `(tactic| walk_at "egs") => `(tactic| first | with_reducible exact eg_nil | (with_reducible apply eg_cons; walk_at "eg"; walk_at "egs"))
local macro_rules | `(tactic| walk_at "es") => `(tactic| first | with_reducible exact es_name | (with_reducible apply es_tup; walk_at "ess"))
local macro_rules | `(tactic| walk_at "ess") => `(tactic| first | with_reducible exact es_nil | (with_reducible apply es_cons; walk_at "es"; walk_at "ess"))
local macro_rules | `(tactic| walk_at "ei") => `(tactic| first | (with_reducible apply ei_list; walk_at "ed") | (with_reducible apply ei_tup; walk_at "ed") | (with_reducible apply ei_rng1; walk_at "ea") | (with_reducible apply ei_rng2; walk_at "ea") | (with_reducible apply ei_str; walk_at "ed"))
local macro_rules | `(tactic| walk_at "el") => `(tactic| first
  | (with_reducible apply el_lst; walk_at "ea")
  | (focus (with_reducible apply el_lc; rotate_left; walk_at "ei"; walk_at "eg"; walk_at "et"; walk_at "ed"; decide))
  | (with_reducible apply el_op; walk_at "r2l"; walk_at "ed"; walk_at "ed")
  | (with_reducible apply el_cb; walk_at "rcl"; walk_at "ea")
  | (with_reducible apply el_sl; walk_at "ed"; walk_at "eo"; walk_at "eo")
  | (with_reducible apply el_call; walk_at "ea")
  | walk_at "el+"
  | (with_reducible apply el_meth; decide; walk_at "ed"; walk_at "ea"))
local macro_rules | `(tactic| walk_at "ed") => `(tactic| first
  | with_reducible exact ed_var | with_reducible exact ed_c
  | (with_reducible apply ed_op; walk_at "r2"; walk_at "ed"; walk_at "ed")
  | (with_reducible apply ed_call; walk_at "ea")
  | (with_reducible apply ed_callX; walk_at "ea")
  | (with_reducible apply ed_tup; walk_at "ea")
  | (with_reducible apply ed_if; walk_at "et"; walk_at "ed"; walk_at "ed")
  | (with_reducible apply ed_cb; walk_at "rc"; walk_at "ea")
  | (with_reducible apply ed_un r_U; walk_at "ed")
  | (with_reducible apply ed_chain; walk_at "r2"; walk_at "r2"; walk_at "ed"; walk_at "ed"; walk_at "ed")
  | (with_reducible apply ed_andV; walk_at "ed"; walk_at "ed") | (with_reducible apply ed_orV; walk_at "ed"; walk_at "ed")
  | (with_reducible apply ed_meth; decide; walk_at "ed"; walk_at "ea")
  | walk_at "ed+"
  | (with_reducible apply EvL.d; walk_at "el"))
local macro_rules | `(tactic| walk_at "svF") => `(tactic| first
  | (with_reducible apply sv_seq; walk_at "svF"; walk_at "svF")
  | (with_reducible apply sv_asg; walk_at "ed")
  | (with_reducible apply sv_if; walk_at "et"; walk_at "svF"; walk_at "svF")
  | (with_reducible apply sv_for; walk_at "ei"; walk_at "es"; walk_at "svF")
  | walk_at "sv")
local macro_rules | `(tactic| walk_at "sv") => `(tactic| first
  | with_reducible exact sv_next | with_reducible exact sv_break | with_reducible exact sv_cont | with_reducible exact sv_never | with_reducible exact sv_retN
  | (with_reducible apply sv_seq; walk_at "sv"; walk_at "sv")
  | (with_reducible apply sv_asgL; walk_at "el")
  | (with_reducible apply sv_asg; walk_at "ed")
  | (with_reducible apply sv_if; walk_at "et"; walk_at "sv"; walk_at "sv")
  | (with_reducible apply sv_for; walk_at "ei"; walk_at "es"; walk_at "sv")
  | (with_reducible apply sv_par; walk_at "ea")
  | (with_reducible apply sv_app; walk_at "ed")
  | (with_reducible apply sv_ret; walk_at "ed")
  | (with_reducible apply sv_asgT; walk_at "ed"; walk_at "es")
  | (with_reducible apply sv_drop; walk_at "ed"))
local macro_rules | `(tactic| walk_at "rc") => `(tactic| first | with_reducible exact r_len | with_reducible exact r_all | with_reducible exact r_max | with_reducible exact r_min)
local macro_rules | `(tactic| walk_at "rcl") => `(tactic| first | with_reducible exact r_list | with_reducible exact r_sort)
local macro_rules | `(tactic| walk_at "el+") => `(tactic| (with_reducible apply el_listRg; walk_at "ed"))
local macro_rules | `(tactic| walk_at "edm") => `(tactic| first | (with_reducible apply ed_index; walk_at "ed"; walk_at "ed") | (with_reducible apply ed_dget2; walk_at "ed"; walk_at "ed"; walk_at "ed") | with_reducible exact ed_disp2 | (with_reducible apply ed_chain; walk_at "r2"; walk_at "r2"; walk_at "ed"; walk_at "ed"; walk_at "ed"))
local macro_rules | `(tactic| walk_at "ed+") => `(tactic| walk_at "edm")
local macro_rules | `(tactic| walk_at "ex") => `(tactic| first | (with_reducible apply ex_callI; walk_at "ea") | (with_reducible apply ex_call; walk_at "ea") | (with_reducible apply ex_opL; walk_at "r2"; walk_at "ex"; walk_at "ed"))
local macro_rules | `(tactic| walk_at "svM") => `(tactic| first
  | (with_reducible apply sv_seq; walk_at "svM"; walk_at "svM")
  | (with_reducible apply sv_ins; walk_at "ed")
  | (with_reducible apply sv_asg; walk_at "ed")
  | (with_reducible apply sv_asgX; walk_at "ex")
  | (with_reducible apply sv_retX; walk_at "ex")
  | (with_reducible apply sv_if; walk_at "et"; walk_at "svM"; walk_at "svM")
  | (with_reducible apply sv_for; walk_at "ei"; walk_at "es"; walk_at "svM")
  | walk_at "sv")
local macro_rules | `(tactic| walk_at "rc") => `(tactic| first | with_reducible exact r_len | with_reducible exact r_lenK | with_reducible exact r_all | with_reducible exact r_max | with_reducible exact r_min | with_reducible exact r_max1 | with_reducible exact r_min1 | with_reducible exact r_int | with_reducible exact r_tup)
local macro_rules | `(tactic| walk_at "ei") => `(tactic| first | (with_reducible apply ei_list; walk_at "ed") | (with_reducible apply ei_tup; walk_at "ed") | (with_reducible apply ei_rng1; walk_at "ea") | (with_reducible apply ei_rng2; walk_at "ea") | (with_reducible apply ei_str; walk_at "ed") | (with_reducible apply ei_en; walk_at "ea"))
local macro_rules | `(tactic| walk_at "edk") => `(tactic| first | (with_reducible apply ed_mk2; walk_at "ea"; walk_at "ea") | (with_reducible apply ed_dget; walk_at "ed"; walk_at "ed") | (with_reducible apply ed_din; walk_at "ed"; walk_at "ed") | (with_reducible apply ed_dnin; walk_at "ed"; walk_at "ed") | walk_at "edm")
local macro_rules | `(tactic| walk_at "ed+") => `(tactic| walk_at "edk")
local macro_rules | `(tactic| walk_at "ek") => `(tactic| first | with_reducible exact ek_new | (focus (with_reducible apply ek_dc; rotate_left; walk_at "ei"; walk_at "eg"; walk_at "et"; walk_at "ed"; walk_at "ed"; decide)))
local macro_rules | `(tactic| walk_at "svN") => `(tactic| first
  | (with_reducible apply sv_seq; walk_at "svN"; walk_at "svN")
  | (with_reducible apply sv_ins; walk_at "ed")
  | (with_reducible apply sv_asgK; walk_at "ek")
  | (with_reducible apply sv_asg; walk_at "ed")
  | (with_reducible apply sv_asgX; walk_at "ex")
  | (with_reducible apply sv_dropX; walk_at "ex")
  | (with_reducible apply sv_retX; walk_at "ex")
  | (with_reducible apply sv_dput; walk_at "ed"; walk_at "ed")
  | (with_reducible apply sv_raise rfl; decide; walk_at "ed")
  | (with_reducible apply sv_if; walk_at "et"; walk_at "svN"; walk_at "svN")
  | (with_reducible apply sv_for; walk_at "ei"; walk_at "es"; walk_at "svN")
  | walk_at "sv")
abbrev sLaw : Stmt := topS 38
abbrev N_law : List Str := ["_law_script", "_law_box_here", "_law_k", "_law_m", "_law_n", "_law_my_one", "_law_my_other", "_law_found", "_law_web_here", "_law_many", "_law_bad", "_law_some"]
theorem sc_law : FnScope N_law ["_law_script"] (defScope sLaw) := ⟨rfl, rfl, rfl, by decide +kernel, rfl, by decide +kernel, by decide +kernel⟩
abbrev qLam : Str := (envOfC "law" (defScope sLaw) 0 0 .none).qual ++ "<lambda>"
abbrev TB1 (PT : Addr) : List (Addr × Str) := [(PT, qLam)]
theorem vals_app : ∀ {vs zs : List V} {us ws : List Value}, Vals vs us → Vals zs ws → Vals (vs ++ zs) (us ++ ws)
  | _, _, _, _, .nil, h => h
  | _, _, _, _, .cons a r, h => .cons a (vals_app r h)
theorem vals_rev : ∀ {vs : List V} {us : List Value}, Vals vs us → Vals vs.reverse us.reverse
  | _, _, .nil => .nil
  | _, _, .cons a r => by
    rw [List.reverse_cons, List.reverse_cons]
    exact vals_app (vals_rev r) (.cons a .nil)
theorem mw_good {n : Int} {As Ms : List Ks} (h : WebK n As Ms) : (mwD n As Ms).deep ≤ 3 ∧ (mwD n As Ms).plain = true ∧ (mwD n As Ms).thin = true := by
  have la := h.la
  have lm := h.lm
  have dA : deepL (As.map tieD) ≤ 1 := deepL_of fun d hd => by
    obtain ⟨k, hk, rfl⟩ := List.mem_map.mp hd
    exact (std_tieA (h.ka k hk)).2
  have dM : deepL (Ms.map tieD) ≤ 1 := deepL_of fun d hd => by
    obtain ⟨k, hk, rfl⟩ := List.mem_map.mp hd
    exact (std_tieM (h.km k hk)).2
  have pA : plainL (As.map tieD) = true := plainL_of fun d hd => by
    obtain ⟨k, hk, rfl⟩ := List.mem_map.mp hd
    exact (std_tieA (h.ka k hk)).1.1.1
  have pM : plainL (Ms.map tieD) = true := plainL_of fun d hd => by
    obtain ⟨k, hk, rfl⟩ := List.mem_map.mp hd
    exact (std_tieM (h.km k hk)).1.1.1
  have tA : thinL (As.map tieD) = true := thinL_of fun d hd => by
    obtain ⟨k, hk, rfl⟩ := List.mem_map.mp hd
    obtain ⟨c, x, y, rfl, _⟩ := h.ka k hk
    simp [tieD, kDd, D.thin, thinL]
  have tM : thinL (Ms.map tieD) = true := thinL_of fun d hd => by
    obtain ⟨k, hk, rfl⟩ := List.mem_map.mp hd
    obtain ⟨c, x, rfl, _⟩ := h.km k hk
    simp [tieD, kDd, D.thin, thinL]
  refine ⟨?_, ?_, ?_⟩
  · simp only [mwD, lD, D.deep, deepL]
    omega
  · simp only [mwD, lD, D.plain, plainL, pA, pM, Bool.and_self]
  · simp only [mwD, lD, D.thin, thinL, tA, tM, Bool.and_self, Bool.and_true, List.length_map, decide_eq_true (show As.length ≤ 100000 by omega), decide_eq_true (show Ms.length ≤ 100000 by omega)]
    rfl
theorem same_two {n m : Int} {As Ms Bs Ns : List Ks} {Q : D → Prop} (h : WebK n As Ms) (h' : WebK m Bs Ns) (q : Q (.bl true)) : (sameM 4 [.lst [mwD n As Ms, mwD m Bs Ns], .lst [mwD n As Ms, mwD m Bs Ns]]).run Q := by
  obtain ⟨a1, a2, a3⟩ := mw_good h
  obtain ⟨b1, b2, b3⟩ := mw_good h'
  refine ⟨⟨rfl, ?_, ?_, ?_⟩, q⟩
  · simp only [D.deep, deepL]
    omega
  · simp only [D.plain, plainL, a2, b2, Bool.and_self]
  · simp only [D.thin, thinL, a3, b3, Bool.and_self]
    rfl
theorem sel_cons {α β : Type} (f : α → M (Option β)) (a : α) (l : List α) : M.sel f (a :: l) = M.bnd (f a) fun b => M.bnd (M.sel f l) fun bs => M.ret (match b with | some x => x :: bs | none => bs) := rfl
theorem sel_nil {α β : Type} (f : α → M (Option β)) : M.sel f [] = M.ret [] := rfl
theorem bsd_ok {n m : Int} {As Ms Bs Ns : List Ks} {Q : Rx → Prop} (w : WebK n As Ms) (v : WebK m Bs Ns) (h : n + m ≤ 81) (lA : As.length + Bs.length ≤ 3900) (lM : Ms.length + Ns.length ≤ 3900) (q : ∀ u : List Ks × List Ks, SrtK (As ++ Bs.map (shK n)) u.1 ∧ SrtK (Ms ++ Ns.map (shK n)) u.2 → Q (.ok (.web (n + m) u.1 u.2))) : (bsdM [.web n As Ms, .web m Bs Ns]).run Q := by
  have n0 := w.n0
  have m0 := v.n0
  refine ⟨⟨w, by omega, v, by omega, lA, lM⟩, ?_⟩
  rw [if_neg (by omega)]
  exact q
theorem bsd_er {n m : Int} {As Ms Bs Ns : List Ks} {Q : Rx → Prop} (w : WebK n As Ms) (hn : n ≤ 81) (v : WebK m Bs Ns) (hm : m ≤ 81) (h : 81 < n + m) (lA : As.length + Bs.length ≤ 3900) (lM : Ms.length + Ns.length ≤ 3900) (q : Q (.er ⟨"TooMany", "bound", .int 81⟩)) : (bsdM [.web n As Ms, .web m Bs Ns]).run Q := by
  refine ⟨⟨w, hn, v, hm, lA, lM⟩, ?_⟩
  rw [if_pos (by omega)]
  exact q
theorem tms_ok {n m : Int} {As Ms Bs Ns : List Ks} {Q : Rx → Prop} (w : WebK n As Ms) (hn : n ≤ 81) (v : WebK m Bs Ns) (hm : m ≤ 81) (h : n * m ≤ 81) (l : As.length ≤ 60 ∧ Bs.length ≤ 60 ∧ Ms.length ≤ 60 ∧ Ns.length ≤ 60) (q : ∀ u : List Ks × List Ks, SrtK (prL m As Bs) u.1 ∧ SrtK (prL m Ms Ns) u.2 → Q (.ok (.web (n * m) u.1 u.2))) : (tmsM [.web n As Ms, .web m Bs Ns]).run Q := by
  have l1 := Nat.mul_le_mul l.1 l.2.1
  have l2 := Nat.mul_le_mul l.2.2.1 l.2.2.2
  refine ⟨⟨w, hn, v, hm, by omega, by omega, by omega, by omega, by omega, by omega⟩, ?_⟩
  rw [if_neg (by omega)]
  exact q
theorem tms_er {n m : Int} {As Ms Bs Ns : List Ks} {Q : Rx → Prop} (w : WebK n As Ms) (hn : n ≤ 81) (v : WebK m Bs Ns) (hm : m ≤ 81) (h : 81 < n * m) (l : As.length ≤ 60 ∧ Bs.length ≤ 60 ∧ Ms.length ≤ 60 ∧ Ns.length ≤ 60) (q : Q (.er ⟨"TooMany", "bound", .int 81⟩)) : (tmsM [.web n As Ms, .web m Bs Ns]).run Q := by
  have l1 := Nat.mul_le_mul l.1 l.2.1
  have l2 := Nat.mul_le_mul l.2.2.1 l.2.2.2
  refine ⟨⟨w, hn, v, hm, by omega, by omega, by omega, by omega, by omega, by omega⟩, ?_⟩
  rw [if_pos (by omega)]
  exact q
theorem srt_nil : SrtK [] [] := ⟨(fun k hk => nomatch hk), (fun k hk => nomatch hk), List.nodup_nil, List.Pairwise.nil⟩
theorem web_nil {n : Int} (h : 0 ≤ n) : WebK n [] [] := ⟨h, (fun k hk => nomatch hk), (fun k hk => nomatch hk), srt_nil, srt_nil, by decide, by decide⟩
theorem few {a : Nat} : a ≤ 0 → ([] : List Ks).length ≤ 60 := fun _ => by decide
theorem atM_ok {K : PySem.W.Frag} {cls : Str → Addr} {e : Ecs} (d : D) : atM K cls e (.ok d) = M.ret .non := rfl
theorem atM_er {K : PySem.W.Frag} {cls : Str → Addr} {e : Ecs} (x : Exn) : atM K cls e (.er x) = M.bnd (M.req (AtOk K cls e x)) fun _ => M.bnd (M.opt (dOf x.v)) fun d => M.ret (.tup [.str x.w, d]) := rfl
section
variable {P : Program} {w : World} {K : PySem.W.Frag} {mg : Str → Option Value} {base : Heap} {C : Addr} {T : List (Addr × Str)} {cls : Str → Addr}
theorem kb_beside {f : Addr} {fd : FuncData} (F : Fun K "beside" "beside" sbeside f fd) : KBn K fd ["one", "other"] 1 ["other"] (fun us ws => us ++ ws) (fun vs zs => vs ++ zs) := by
  obtain ⟨oc, od, kV, doc, pm, an, cdv, ct, osl, rfl, _, _⟩ := F.ex
  refine ⟨fun s us ws _ l1 l2 => ?_, fun {vs us zs ws} h1 h2 => vals_app h1 h2⟩
  match us, ws, l1, l2 with
  | [a], [b], _, _ => exact .of_eq rfl
theorem kb_times {f : Addr} {fd : FuncData} (F : Fun K "times" "times" stimes f fd) : KBn K fd ["one", "other"] 0 ["other", "one"] (fun _ ws => ws.reverse) (fun _ zs => zs.reverse) := by
  obtain ⟨oc, od, kV, doc, pm, an, cdv, ct, osl, rfl, _, _⟩ := F.ex
  refine ⟨fun s us ws _ l1 l2 => ?_, fun {vs us zs ws} h1 h2 => vals_rev h2⟩
  match us, ws, l1, l2 with
  | [], [a, b], _, _ => exact .of_eq rfl
theorem ex_callA {S : Base} {f : List D → M Rx} {n k' : Nat} {t tk : TA} {m mk : Dv.Env → M (List D)} (h : EvA S t m) (hk : EvA S tk mk) : EvX S (fun E => tCallN n k' (spX S f) (fun vs zs => vs ++ zs) E t tk) (fun ρ => M.bnd (m ρ) fun l => M.bnd (mk ρ) fun z => M.bnd (M.req (l.length = n ∧ z.length = k')) fun _ => f (l ++ z)) := ex_callN (gD := fun a b => a ++ b) (fun a b _ _ => a.append b) h hk
theorem ex_callR {S : Base} {f : List D → M Rx} {n k' : Nat} {t tk : TA} {m mk : Dv.Env → M (List D)} (h : EvA S t m) (hk : EvA S tk mk) : EvX S (fun E => tCallN n k' (spX S f) (fun _ zs => zs.reverse) E t tk) (fun ρ => M.bnd (m ρ) fun l => M.bnd (mk ρ) fun z => M.bnd (M.req (l.length = n ∧ z.length = k')) fun _ => f z.reverse) := ex_callN (gD := fun _ b => b.reverse) (fun a b _ _ => b.rev) h hk
local macro_rules | `(tactic| walk_at "rc") => `(tactic| first | with_reducible exact r_len | with_reducible exact r_lenW | with_reducible exact r_all | with_reducible exact r_max | with_reducible exact r_min)
local macro_rules | `(tactic| walk_at "ex") => `(tactic| first | (with_reducible apply ex_callA; walk_at "ea"; walk_at "ea") | (with_reducible apply ex_callR; walk_at "ea"; walk_at "ea") | (with_reducible apply ex_call; walk_at "ea"))
local macro_rules | `(tactic| walk_at "ed+") => `(tactic| first | (with_reducible apply ed_at; walk_at "ex") | (with_reducible apply ed_mk0; assumption; assumption; walk_at "ea") | walk_at "edk")
def spLaw (K : PySem.W.Frag) (PT : Addr) : Sp := fun vs H Q _ => ∃ (a : Addr) (ns : List Int), vs = [.ref a] ∧ SqL K H a (ns.map V.int) ∧ ns.length ≤ 63 ∧ LamX.Tabs (TB1 PT) H ∧ ∀ H', Q (.bl true) H'
set_option maxHeartbeats 8000000 in
theorem ok_law {f cL PT fB fM fS fW fTo fLb fLt fT fY fX fAt fN fE fL ta tm : Addr} {fd dB dM dS dW dTo dLb dLt dT dY dX dAt dN dL : FuncData} {e : Ecs} (F : FunC K "law" "law" sLaw f fd cL) (b : Bq mg) (TB : LamX.TabB base mg cL PT)
    (Fat : Fun K "_law_at" "_law_at" sAt fAt dAt) (gAt : mg "_law_at" = some (.ref fAt)) (bAt : Binds K dAt ["_law_ask"] []) (G : AtG mg e) (aP : AtC K e (cls "TooMany") "bound") (eP : ErrC K (cls "TooMany") fE "bound")
    (gW : mg "Web" = some (.ref C)) (Mq : Mk K C fN) (FI : FunD K "__init__" "Web.__init__" (defArgs sInit) (defBody sInit) (defScope sInit) [] [("arrows", .ref ta), ("marks", .ref tm)] fN dN) (oN : FnOk P w K mg base CX0 2 fN dN psI (spInit K C)) (ea : ∀ H, SqT K H ta []) (em : ∀ H, SqT K H tm [])
    (oLn : FnOk P w K mg base CX0 1 fL dL ["self"] (Nq.spLen (LenR K C))) (fLen : PySem.W.findIn K (.ref C) "__len__" = some (some (.ref fL))) (iLen : PySem.W.isFn K (.ref fL) = true) (bLen : Binds K dL ["self"] [])
    (oB : Df P w K mg base 1 "_law_box" ["_law_script"] (spBox K) fB dB) (oM : Df P w K mg base 4 "_law_made" ["_law_m"] (spD (mkS K C (TB1 PT) cls) madeM) fM dM) (oS : Df P w K mg base 5 "_law_same" ["_law_found", "_law_due"] (spD (mkS K C (TB1 PT) cls) (sameM 4)) fS dS)
    (oW : Df P w K mg base 5 "_law_web" ["_law_box_here", "_law_low", "_law_high"] (spD (mkS K C (TB1 PT) cls) webM) fW dW) (oTo : Df P w K mg base 3 "_law_told" ["_law_web_here"] (spD (mkS K C (TB1 PT) cls) toldM) fTo dTo) (oLb : Df P w K mg base 2 "_law_beside" ["_law_m", "_law_n"] (spD (mkS K C (TB1 PT) cls) lbsM) fLb dLb) (oLt : Df P w K mg base 2 "_law_times" ["_law_m", "_law_n"] (spD (mkS K C (TB1 PT) cls) ltsM) fLt dLt)
    (oT : Df P w K mg base 1 "_law_take" ["_law_box_here", "_law_many"] (spD (mkS K C (TB1 PT) cls) takeM) fT dT)
    (oY : DfX P w K mg base 4 "beside" ["one", "other"] (spX (mkS K C (TB1 PT) cls) bsdM) fY dY) (kbY : KBn K dY ["one", "other"] 1 ["other"] (fun us ws => us ++ ws) (fun vs zs => vs ++ zs)) (oX : DfX P w K mg base 4 "times" ["one", "other"] (spX (mkS K C (TB1 PT) cls) tmsM) fX dX) (kbX : KBn K dX ["one", "other"] 0 ["other", "one"] (fun _ ws => ws.reverse) (fun _ zs => zs.reverse)) : FnOk P w K mg base CX0 10 f fd ["_law_script"] (spLaw K PT) := by
  obtain ⟨ds0, rv0, bd0⟩ := bd_pos FI
  refine F.ok sc_law (fun vs H Q E h => ?_) (fun A outer s H vs Q E hr h => ?_)
  · obtain ⟨a, ns, rfl, _⟩ := h
    rfl
  · obtain ⟨a, ns, rfl, hS, hlen, hTb, KQ⟩ := h
    have hu5 : (A.deeper (envOfC "law" (defScope sLaw) s.heap.objs.size f (.ref cL))).units + 65 < cLine := by
      have := hr.un
      omega
    have hu : (A.deeper (envOfC "law" (defScope sLaw) s.heap.objs.size f (.ref cL))).units + 64 < cLine := by omega
    have hu1 : (A.deeper (envOfC "law" (defScope sLaw) s.heap.objs.size f (.ref cL))).units + 1 < cLine := by omega
    refine ⟨_, (pss_cons (ps_set (i := 1) sc_law.nd rfl (.inl rfl) (pe_call oB.ok (hr.mono (by decide)) (by rfl) oB.gl oB.kp oB.bd .nil pass0 (pa_cons (pv 0) pa_nil)))
      (pss_cons (ps_for PassesOwn.never rfl (pi_range1 (by rfl) b.range (pa_cons pe_int pa_nil)) (pg_name (i := 2) sc_law.nd rfl (.inl rfl))
      (pss_cons (ps_par (by rfl) sc_law.nd (i := 3) (j := 4) rfl rfl (by decide) rfl rfl (pa_cons (pe_call oW.ok (hr.mono (by decide)) (by rfl) oW.gl oW.kp oW.bd .nil pass0 (pa_cons (pv 1) (pa_cons pe_int (pa_cons pe_int pa_nil)))) (pa_cons (pe_call oW.ok (hr.mono (by decide)) (by rfl) oW.gl oW.kp oW.bd .nil pass0 (pa_cons (pv 1) (pa_cons pe_int (pa_cons pe_int pa_nil)))) pa_nil)) (by rfl))
      (pss_cons (ps_par (by rfl) sc_law.nd (i := 5) (j := 6) rfl rfl (by decide) rfl rfl (pa_cons (pe_call oM.ok (hr.mono (by decide)) (by rfl) oM.gl oM.kp oM.bd .nil pass0 (pa_cons (pv 3) pa_nil)) (pa_cons (pe_call oM.ok (hr.mono (by decide)) (by rfl) oM.gl oM.kp oM.bd .nil pass0 (pa_cons (pv 4) pa_nil)) pa_nil)) (by rfl))
      (pss_cons (ps_set (i := 7) sc_law.nd rfl (.inl rfl) (pe_lst (pa_cons (pe_call oY.ok (hr.mono (by decide)) (by rfl) oY.gl oY.kp oY.bd .nil passL (pa_cons (pv 5) (pa_cons (pv 6) pa_nil))) (pa_cons (pe_call oX.ok (hr.mono (by decide)) (by rfl) oX.gl oX.kp oX.bd .nil passL (pa_cons (pv 5) (pa_cons (pv 6) pa_nil))) pa_nil))))
      (pss_cons (ps_if (pt_not (pt_val (pe_call oS.ok (hr.mono (by decide)) (by rfl) oS.gl oS.kp oS.bd .nil pass0 (pa_cons (pe_lc (own := [("_law_web_here", 8)]) (g := gName 8) (tt := tYes) rfl sc_law.nd (di_list (K := K) rfl (pv 7)) (blkOk_by (N := N_law) (sc := defScope sLaw) (by decide +kernel)) (fun _ _ _ _ _ => (pg_name (i := 8) sc_law.nd rfl (.inl rfl))) (fun _ _ _ _ _ => pts_nil) (fun _ _ _ _ _ => (pe_call oTo.ok (hr.mono (by decide)) (by rfl) oTo.gl oTo.kp oTo.bd .nil pass0 (pa_cons (pv 8) pa_nil)))) (pa_cons (pe_lst (pa_cons (pe_call oLb.ok (hr.mono (by decide)) (by rfl) oLb.gl oLb.kp oLb.bd .nil pass0 (pa_cons (pv 3) (pa_cons (pv 4) pa_nil))) (pa_cons (pe_call oLt.ok (hr.mono (by decide)) (by rfl) oLt.gl oLt.kp oLt.bd .nil pass0 (pa_cons (pv 3) (pa_cons (pv 4) pa_nil))) pa_nil))) pa_nil))))) (pss_one ps_never) pss_nil)
      (pss_one (ps_if (pt_not (pt_val (pe_call oS.ok (hr.mono (by decide)) (by rfl) oS.gl oS.kp oS.bd .nil pass0 (pa_cons (pe_lst (pa_cons (pe_call oTo.ok (hr.mono (by decide)) (by rfl) oTo.gl oTo.kp oTo.bd .nil pass0 (pa_cons (pv 5) pa_nil)) (pa_cons (pe_call oTo.ok (hr.mono (by decide)) (by rfl) oTo.gl oTo.kp oTo.bd .nil pass0 (pa_cons (pv 6) pa_nil)) pa_nil))) (pa_cons (pe_lst (pa_cons (pv 3) (pa_cons (pv 4) pa_nil))) pa_nil))))) (pss_one ps_never) pss_nil)))))))
      (pss_cons (ps_set (i := 9) sc_law.nd rfl (.inr rfl) (pe_op op_add pe_int (pe_call oT.ok (hr.mono (by decide)) (by rfl) oT.gl oT.kp oT.bd .nil pass0 (pa_cons (pv 1) (pa_cons pe_int pa_nil)))))
      (pss_cons (ps_set (i := 10) sc_law.nd rfl (.inl rfl) (pe_cmpR op_gt (pe_op op_add (pv 9) pe_int) pe_int (nomark _)))
      (pss_cons (ps_if (pt_not (pt_val (pe_call oS.ok (hr.mono (by decide)) (by rfl) oS.gl oS.kp oS.bd .nil pass0 (pa_cons (pe_atK (K := K) (T := TB1 PT) (k := 7) rfl Fat gAt bAt G (by rfl) TB rfl (List.mem_singleton.mpr rfl) (fun p hp _ => congrArg Prod.snd (List.mem_singleton.mp hp)) (hr.mono (by decide)) (LamX.lamS_by (sc := defScope sLaw) (by decide +kernel)) rfl (fun _ _ _ _ _ => rfl) (fun _ _ _ _ E _ _ hr => (pe_callN oY.ok (hr.mono (by decide)) (by rfl) oY.gl oY.kp kbY (passE rfl rfl rfl rfl) (pa_cons (pe_make Mq oN (hr.mono (by decide)) (by rfl) gW bd0 rv0 pass0 (pa_cons (pv 9) pa_nil)) pa_nil) (pk_cons (pe_make Mq oN (hr.mono (by decide)) (by rfl) gW bd0 rv0 pass0 (pa_cons pe_int pa_nil)) pk_nil) rfl))) (pa_cons (pe_ifExp (pt_val (pv 10)) (pe_tup (pa_cons pe_str (pa_cons pe_int pa_nil))) pe_non) pa_nil))))) (pss_one ps_never) pss_nil)
      (pss_cons (ps_set (i := 11) sc_law.nd rfl (.inl rfl) (pe_lst (pa_cons (pe_callB (Nq.call_lenI (K := K) rfl oLn fLen iLen bLen pass0 (hr.mono (by decide))) (by rfl) b.len PySem.boot_len (pa_cons (pe_call oX.ok (hr.mono (by decide)) (by rfl) oX.gl oX.kp oX.bd .nil passL (pa_cons (pe_make Mq oN (hr.mono (by decide)) (by rfl) gW bd0 rv0 pass0 (pa_cons pe_int pa_nil)) (pa_cons (pe_make Mq oN (hr.mono (by decide)) (by rfl) gW bd0 rv0 pass0 (pa_cons pe_int pa_nil)) pa_nil))) pa_nil)) (pa_cons (pe_callB (Nq.call_lenI (K := K) rfl oLn fLen iLen bLen pass0 (hr.mono (by decide))) (by rfl) b.len PySem.boot_len (pa_cons (pe_call oX.ok (hr.mono (by decide)) (by rfl) oX.gl oX.kp oX.bd .nil passL (pa_cons (pe_make Mq oN (hr.mono (by decide)) (by rfl) gW bd0 rv0 pass0 (pa_cons pe_int pa_nil)) (pa_cons (pe_make Mq oN (hr.mono (by decide)) (by rfl) gW bd0 rv0 pass0 (pa_cons pe_int pa_nil)) pa_nil))) pa_nil)) (pa_cons (pe_callB (Nq.call_lenI (K := K) rfl oLn fLen iLen bLen pass0 (hr.mono (by decide))) (by rfl) b.len PySem.boot_len (pa_cons (pe_call oX.ok (hr.mono (by decide)) (by rfl) oX.gl oX.kp oX.bd .nil passL (pa_cons (pe_make Mq oN (hr.mono (by decide)) (by rfl) gW bd0 rv0 pass0 (pa_cons pe_int pa_nil)) (pa_cons (pe_make Mq oN (hr.mono (by decide)) (by rfl) gW bd0 rv0 pass0 (pa_cons pe_int pa_nil)) pa_nil))) pa_nil)) pa_nil)))))
      (pss_one (ps_ret (pe_and (pe_cmpR (dv_eq (K := K) rfl hu) (pv 11) (pe_lst (pa_cons pe_int (pa_cons pe_int (pa_cons pe_int pa_nil)))) (nomark _)) (pe_one (pe_cmpR (dv_eq (K := K) rfl hu) (pe_atK (K := K) (T := TB1 PT) (k := 7) rfl Fat gAt bAt G (by rfl) TB rfl (List.mem_singleton.mpr rfl) (fun p hp _ => congrArg Prod.snd (List.mem_singleton.mp hp)) (hr.mono (by decide)) (LamX.lamS_by (sc := defScope sLaw) (by decide +kernel)) rfl (fun _ _ _ _ _ => rfl) (fun _ _ _ _ E _ _ hr => (pe_callN0 oX.ok (hr.mono (by decide)) (by rfl) oX.gl oX.kp kbX (passE rfl rfl rfl rfl) (pk_cons (pe_make Mq oN (hr.mono (by decide)) (by rfl) gW bd0 rv0 pass0 (pa_cons pe_int pa_nil)) (pk_cons (pe_make Mq oN (hr.mono (by decide)) (by rfl) gW bd0 rv0 pass0 (pa_cons pe_int pa_nil)) pk_nil))))) (pe_tup (pa_cons pe_str (pa_cons pe_int pa_nil))) (nomark _)))))))))))), ?_⟩
    refine seq_set ⟨_, rfl, a, ns, rfl, hS, hlen, fun bx q H1 nb B1 s1 => ?_⟩
    refine law_go (n := 10) (S := mkS K C (TB1 PT) cls) (X := E) (by walk_at "svN") B1 (hTb.ext s1) ?_ KQ
    have e0 : (none :: some (.f .box) :: List.replicate 10 none : Ev) = [none, some (.f .box), none, none, none, none, none, none, none, none, none, none] := rfl
    rw [e0]
    simp only [run_bnd, run_ret, run_opt, run_req, run_all, run_choose, run_ite, then_nx, then_rt, then_rl, then_er, then_ct, then_bk, outD_rt, outD_rl, outD_nx, outL_rl, outX_rt, outX_rl, outX_nx, outX_er, mask_nil, mask_cons, mk0_f, mk0_o, mk0_od, mk0_ot, mk0_n, peek_nil, peek_cons, pk_f, pk_o, pk_od, pk_ot, pk_n, dOf_int, dOf_bl, dOf_str, dOf_non, opI0_int, opI_int, unI_int, asB_bl, asI_int, asL_lst, asT_tup, asW_web, eqS_int, eqS_str, ixL_lst, ixT_tup, ixQ_lst, ixQ_tup, lenD_lst, lenD_tup, listD_lst, listD_tup, catD_lst, rng1_int, rng2_int, sName_go, sTup_go, sCons_go, sNil_go, bTup_go, bCons_go, bNil_go, two_go, List.set_cons_zero, List.set_cons_succ, List.getElem?_cons_zero, List.getElem?_cons_succ, Option.join_some, atI_0, atI_1, atI_2, decide_eq_true_eq, wipeE, List.map_cons, List.map_nil, step_nx, step_ct, step_bk, step_rt, step_rl, step_er, vOf_int, vOf_str]
    refine ⟨by decide, ?_⟩
    refine loop_run (fun i ρ => ∃ y2 y3 y4 y5 y6 y7 y8 y9 y10 y11, ρ = [none, some (.f .box), y2, y3, y4, y5, y6, y7, y8, y9, y10, y11]) ⟨_, _, _, _, _, _, _, _, _, _, rfl⟩ ?_ ?_
    · rintro i h ρ ⟨y2, y3, y4, y5, y6, y7, y8, y9, y10, y11, rfl⟩
      simp only [sName_go, run_ret, List.set_cons_zero, List.set_cons_succ]
      refine seq_cut (fun ρ => ∃ n1 A1 M1 n2 A2 M2 z2, ρ = [none, some (.f .box), z2, some (.f (mwD n1 A1 M1)), some (.f (mwD n2 A2 M2)), y5, y6, y7, y8, y9, y10, y11] ∧ n1 ≤ 8 ∧ WebK n1 A1 M1 ∧ A1.length ≤ 19 ∧ M1.length ≤ 10 ∧ n2 ≤ 8 ∧ WebK n2 A2 M2 ∧ A2.length ≤ 19 ∧ M2.length ≤ 10) ?_ ?_
      · simp only [run_bnd, run_ret, run_opt, run_req, run_all, run_choose, run_ite, then_nx, then_rt, then_rl, then_er, then_ct, then_bk, outD_rt, outD_rl, outD_nx, outL_rl, outX_rt, outX_rl, outX_nx, outX_er, mask_nil, mask_cons, mk0_f, mk0_o, mk0_od, mk0_ot, mk0_n, peek_nil, peek_cons, pk_f, pk_o, pk_od, pk_ot, pk_n, dOf_int, dOf_bl, dOf_str, dOf_non, opI0_int, opI_int, unI_int, asB_bl, asI_int, asL_lst, asT_tup, asW_web, eqS_int, eqS_str, ixL_lst, ixT_tup, ixQ_lst, ixQ_tup, lenD_lst, lenD_tup, listD_lst, listD_tup, catD_lst, rng1_int, rng2_int, sName_go, sTup_go, sCons_go, sNil_go, bTup_go, bCons_go, bNil_go, two_go, List.set_cons_zero, List.set_cons_succ, List.getElem?_cons_zero, List.getElem?_cons_succ, Option.join_some, atI_0, atI_1, atI_2, decide_eq_true_eq, wipeE, List.map_cons, List.map_nil, step_nx, step_ct, step_bk, step_rt, step_rl, step_er, vOf_int, vOf_str]
        refine ⟨⟨by decide, by decide, by decide⟩, fun ⟨n1, A1, M1⟩ ⟨a1, b1, w1, c1, d1⟩ => ?_⟩
        refine ⟨⟨by decide, by decide, by decide⟩, fun ⟨n2, A2, M2⟩ ⟨a2, b2, w2, c2, d2⟩ => ?_⟩
        have c1 : (A1.length : Int) ≤ 2 * n1 + 3 := c1
        have d1 : (M1.length : Int) ≤ n1 + 2 := d1
        have c2 : (A2.length : Int) ≤ 2 * n2 + 3 := c2
        have d2 : (M2.length : Int) ≤ n2 + 2 := d2
        have b1 : n1 ≤ 8 := b1
        have b2 : n2 ≤ 8 := b2
        exact ⟨_, rfl, n1, A1, M1, n2, A2, M2, _, rfl, b1, w1, by omega, by omega, b2, w2, by omega, by omega⟩
      rintro ρ ⟨n1, A1, M1, n2, A2, M2, z2, rfl, n1u, w1, la1, lm1, n2u, w2, la2, lm2⟩
      have n10 := w1.n0
      have n20 := w2.n0
      have hnn : 0 ≤ n1 * n2 ∧ n1 * n2 ≤ 64 := ⟨Int.mul_nonneg n10 n20, by
        have := Int.mul_le_mul n1u n2u n20 (show (0 : Int) ≤ 8 by decide)
        omega⟩
      have gb : GoodW (n1 + n2) (A1 ++ A2.map (shK n1)) (M1 ++ M2.map (shK n1)) := ⟨by omega, by omega, fun k hk => (List.mem_append.mp hk).elim (fun z => akUp (w1.ka k z) (by omega)) (sh_A w2.ka n10 k), fun k hk => (List.mem_append.mp hk).elim (fun z => mkUp (w1.km k z) (by omega)) (sh_M w2.km n10 k), by rw [List.length_append, List.length_map]; omega, by rw [List.length_append, List.length_map]; omega⟩
      have p1 := pr_lenI n2 A1 A2
      have p2 := pr_lenI n2 M1 M2
      have p3 := Nat.mul_le_mul la1 la2
      have p4 := Nat.mul_le_mul lm1 lm2
      have gt : GoodW (n1 * n2) (prL n2 A1 A2) (prL n2 M1 M2) := ⟨hnn.1, by omega, pr_A w1.ka w2.ka, pr_M w1.km w2.km, by omega, by omega⟩
      refine seq_cut (fun ρ => ρ = [none, some (.f .box), z2, some (.f (mwD n1 A1 M1)), some (.f (mwD n2 A2 M2)), some (.f (.web n1 A1 M1)), some (.f (.web n2 A2 M2)), y7, y8, y9, y10, y11]) ?_ ?_
      · simp only [run_bnd, run_ret, run_opt, run_req, run_all, run_choose, run_ite, then_nx, then_rt, then_rl, then_er, then_ct, then_bk, outD_rt, outD_rl, outD_nx, outL_rl, outX_rt, outX_rl, outX_nx, outX_er, mask_nil, mask_cons, mk0_f, mk0_o, mk0_od, mk0_ot, mk0_n, peek_nil, peek_cons, pk_f, pk_o, pk_od, pk_ot, pk_n, dOf_int, dOf_bl, dOf_str, dOf_non, opI0_int, opI_int, unI_int, asB_bl, asI_int, asL_lst, asT_tup, asW_web, eqS_int, eqS_str, ixL_lst, ixT_tup, ixQ_lst, ixQ_tup, lenD_lst, lenD_tup, listD_lst, listD_tup, catD_lst, rng1_int, rng2_int, sName_go, sTup_go, sCons_go, sNil_go, bTup_go, bCons_go, bNil_go, two_go, List.set_cons_zero, List.set_cons_succ, List.getElem?_cons_zero, List.getElem?_cons_succ, Option.join_some, atI_0, atI_1, atI_2, decide_eq_true_eq, wipeE, List.map_cons, List.map_nil, step_nx, step_ct, step_bk, step_rt, step_rl, step_er, vOf_int, vOf_str]
        exact made_go w1 (by omega) (made_go w2 (by omega) ⟨_, rfl, rfl⟩)
      rintro ρ rfl
      refine seq_cut (fun ρ => ∃ u v : List Ks × List Ks, (SrtK (A1 ++ A2.map (shK n1)) u.1 ∧ SrtK (M1 ++ M2.map (shK n1)) u.2) ∧ (SrtK (prL n2 A1 A2) v.1 ∧ SrtK (prL n2 M1 M2) v.2) ∧ ρ = [none, some (.f .box), z2, some (.f (mwD n1 A1 M1)), some (.f (mwD n2 A2 M2)), some (.f (.web n1 A1 M1)), some (.f (.web n2 A2 M2)), some (.f (.lst [.web (n1 + n2) u.1 u.2, .web (n1 * n2) v.1 v.2])), y8, y9, y10, y11]) ?_ ?_
      · simp only [run_bnd, run_ret, run_opt, run_req, run_all, run_choose, run_ite, then_nx, then_rt, then_rl, then_er, then_ct, then_bk, outD_rt, outD_rl, outD_nx, outL_rl, outX_rt, outX_rl, outX_nx, outX_er, mask_nil, mask_cons, mk0_f, mk0_o, mk0_od, mk0_ot, mk0_n, peek_nil, peek_cons, pk_f, pk_o, pk_od, pk_ot, pk_n, dOf_int, dOf_bl, dOf_str, dOf_non, opI0_int, opI_int, unI_int, asB_bl, asI_int, asL_lst, asT_tup, asW_web, eqS_int, eqS_str, ixL_lst, ixT_tup, ixQ_lst, ixQ_tup, lenD_lst, lenD_tup, listD_lst, listD_tup, catD_lst, rng1_int, rng2_int, sName_go, sTup_go, sCons_go, sNil_go, bTup_go, bCons_go, bNil_go, two_go, List.set_cons_zero, List.set_cons_succ, List.getElem?_cons_zero, List.getElem?_cons_succ, Option.join_some, atI_0, atI_1, atI_2, decide_eq_true_eq, wipeE, List.map_cons, List.map_nil, step_nx, step_ct, step_bk, step_rt, step_rl, step_er, vOf_int, vOf_str]
        refine bsd_ok w1 w2 (by omega) (by omega) (by omega) fun u hu => ?_
        simp only [okR_go, run_bnd, run_ret, run_opt, run_req, run_all, run_choose, run_ite, then_nx, then_rt, then_rl, then_er, then_ct, then_bk, outD_rt, outD_rl, outD_nx, outL_rl, outX_rt, outX_rl, outX_nx, outX_er, mask_nil, mask_cons, mk0_f, mk0_o, mk0_od, mk0_ot, mk0_n, peek_nil, peek_cons, pk_f, pk_o, pk_od, pk_ot, pk_n, dOf_int, dOf_bl, dOf_str, dOf_non, opI0_int, opI_int, unI_int, asB_bl, asI_int, asL_lst, asT_tup, asW_web, eqS_int, eqS_str, ixL_lst, ixT_tup, ixQ_lst, ixQ_tup, lenD_lst, lenD_tup, listD_lst, listD_tup, catD_lst, rng1_int, rng2_int, sName_go, sTup_go, sCons_go, sNil_go, bTup_go, bCons_go, bNil_go, two_go, List.set_cons_zero, List.set_cons_succ, List.getElem?_cons_zero, List.getElem?_cons_succ, Option.join_some, atI_0, atI_1, atI_2, decide_eq_true_eq, wipeE, List.map_cons, List.map_nil, step_nx, step_ct, step_bk, step_rt, step_rl, step_er, vOf_int, vOf_str]
        refine tms_ok w1 (by omega) w2 (by omega) (by omega) ⟨by omega, by omega, by omega, by omega⟩ fun v hv => ?_
        simp only [okR_go, run_bnd, run_ret, run_opt, run_req, run_all, run_choose, run_ite, then_nx, then_rt, then_rl, then_er, then_ct, then_bk, outD_rt, outD_rl, outD_nx, outL_rl, outX_rt, outX_rl, outX_nx, outX_er, mask_nil, mask_cons, mk0_f, mk0_o, mk0_od, mk0_ot, mk0_n, peek_nil, peek_cons, pk_f, pk_o, pk_od, pk_ot, pk_n, dOf_int, dOf_bl, dOf_str, dOf_non, opI0_int, opI_int, unI_int, asB_bl, asI_int, asL_lst, asT_tup, asW_web, eqS_int, eqS_str, ixL_lst, ixT_tup, ixQ_lst, ixQ_tup, lenD_lst, lenD_tup, listD_lst, listD_tup, catD_lst, rng1_int, rng2_int, sName_go, sTup_go, sCons_go, sNil_go, bTup_go, bCons_go, bNil_go, two_go, List.set_cons_zero, List.set_cons_succ, List.getElem?_cons_zero, List.getElem?_cons_succ, Option.join_some, atI_0, atI_1, atI_2, decide_eq_true_eq, wipeE, List.map_cons, List.map_nil, step_nx, step_ct, step_bk, step_rt, step_rl, step_er, vOf_int, vOf_str]
        exact ⟨by show 2 ≤ 100000; decide, _, rfl, u, v, hu, hv, rfl⟩
      rintro ρ ⟨u, v, hu, hv, rfl⟩
      have wu := web_of gb (by rw [List.length_append, List.length_map]; omega) (by rw [List.length_append, List.length_map]; omega) hu
      have wv := web_of gt (by omega) (by omega) hv
      have em1 : mwD n1 A1 M1 = .tup [.int n1, .lst (A1.map tieD), .lst (M1.map tieD)] := rfl
      have em2 : mwD n2 A2 M2 = .tup [.int n2, .lst (A2.map tieD), .lst (M2.map tieD)] := rfl
      refine seq_cut (fun ρ => ∃ z8, ρ = [none, some (.f .box), z2, some (.f (mwD n1 A1 M1)), some (.f (mwD n2 A2 M2)), some (.f (.web n1 A1 M1)), some (.f (.web n2 A2 M2)), some (.f (.lst [.web (n1 + n2) u.1 u.2, .web (n1 * n2) v.1 v.2])), z8, y9, y10, y11]) ?_ ?_
      · simp only [own_0, own_S, sel_cons, sel_nil, lcF_go, told_go, run_bnd, run_ret, run_opt, run_req, run_all, run_choose, run_ite, then_nx, then_rt, then_rl, then_er, then_ct, then_bk, outD_rt, outD_rl, outD_nx, outL_rl, outX_rt, outX_rl, outX_nx, outX_er, mask_nil, mask_cons, mk0_f, mk0_o, mk0_od, mk0_ot, mk0_n, peek_nil, peek_cons, pk_f, pk_o, pk_od, pk_ot, pk_n, dOf_int, dOf_bl, dOf_str, dOf_non, opI0_int, opI_int, unI_int, asB_bl, asI_int, asL_lst, asT_tup, asW_web, eqS_int, eqS_str, ixL_lst, ixT_tup, ixQ_lst, ixQ_tup, lenD_lst, lenD_tup, listD_lst, listD_tup, catD_lst, rng1_int, rng2_int, sName_go, sTup_go, sCons_go, sNil_go, bTup_go, bCons_go, bNil_go, two_go, List.set_cons_zero, List.set_cons_succ, List.getElem?_cons_zero, List.getElem?_cons_succ, Option.join_some, atI_0, atI_1, atI_2, decide_eq_true_eq, wipeE, List.map_cons, List.map_nil, step_nx, step_ct, step_bk, step_rt, step_rl, step_er, vOf_int, vOf_str]
        refine ⟨by show 2 ≤ 100000; decide, ?_⟩
        rw [if_pos trivial, if_pos trivial]
        refine ⟨(A1, M1, A2, M2), ⟨rfl, rfl, rfl, rfl, w1, w2, by omega, by show A1.length + A2.length ≤ 3900; omega, by show M1.length + M2.length ≤ 3900; omega⟩, fun u' hu' => ?_⟩
        refine ⟨(A1, M1, A2, M2), ⟨rfl, rfl, rfl, rfl, w1, w2, by omega, by omega, by omega, by show A1.length ≤ 300; omega, by show A2.length ≤ 300; omega, by show M1.length ≤ 300; omega, by show M2.length ≤ 300; omega, by show A1.length * A2.length ≤ 3900; omega, by show M1.length * M2.length ≤ 3900; omega⟩, fun v' hv' => ?_⟩
        have eu : u' = u := two_srt gb hu' hu
        have ev : v' = v := two_srt gt hv' hv
        subst eu ev
        refine ⟨by show 2 ≤ 100000; decide, same_two wu wv ?_⟩
        simp only [Bool.not_true, Bool.false_eq_true, if_false, run_bnd, run_ret, run_opt, run_req, run_all, run_choose, run_ite, then_nx, then_rt, then_rl, then_er, then_ct, then_bk, outD_rt, outD_rl, outD_nx, outL_rl, outX_rt, outX_rl, outX_nx, outX_er, mask_nil, mask_cons, mk0_f, mk0_o, mk0_od, mk0_ot, mk0_n, peek_nil, peek_cons, pk_f, pk_o, pk_od, pk_ot, pk_n, dOf_int, dOf_bl, dOf_str, dOf_non, opI0_int, opI_int, unI_int, asB_bl, asI_int, asL_lst, asT_tup, asW_web, eqS_int, eqS_str, ixL_lst, ixT_tup, ixQ_lst, ixQ_tup, lenD_lst, lenD_tup, listD_lst, listD_tup, catD_lst, rng1_int, rng2_int, sName_go, sTup_go, sCons_go, sNil_go, bTup_go, bCons_go, bNil_go, two_go, List.set_cons_zero, List.set_cons_succ, List.getElem?_cons_zero, List.getElem?_cons_succ, Option.join_some, atI_0, atI_1, atI_2, decide_eq_true_eq, wipeE, List.map_cons, List.map_nil, step_nx, step_ct, step_bk, step_rt, step_rl, step_er, vOf_int, vOf_str]
        exact ⟨_, rfl, _, rfl⟩
      rintro ρ ⟨z8, rfl⟩
      simp only [told_go, run_bnd, run_ret, run_opt, run_req, run_all, run_choose, run_ite, then_nx, then_rt, then_rl, then_er, then_ct, then_bk, outD_rt, outD_rl, outD_nx, outL_rl, outX_rt, outX_rl, outX_nx, outX_er, mask_nil, mask_cons, mk0_f, mk0_o, mk0_od, mk0_ot, mk0_n, peek_nil, peek_cons, pk_f, pk_o, pk_od, pk_ot, pk_n, dOf_int, dOf_bl, dOf_str, dOf_non, opI0_int, opI_int, unI_int, asB_bl, asI_int, asL_lst, asT_tup, asW_web, eqS_int, eqS_str, ixL_lst, ixT_tup, ixQ_lst, ixQ_tup, lenD_lst, lenD_tup, listD_lst, listD_tup, catD_lst, rng1_int, rng2_int, sName_go, sTup_go, sCons_go, sNil_go, bTup_go, bCons_go, bNil_go, two_go, List.set_cons_zero, List.set_cons_succ, List.getElem?_cons_zero, List.getElem?_cons_succ, Option.join_some, atI_0, atI_1, atI_2, decide_eq_true_eq, wipeE, List.map_cons, List.map_nil, step_nx, step_ct, step_bk, step_rt, step_rl, step_er, vOf_int, vOf_str]
      refine ⟨by show 2 ≤ 100000; decide, by show 2 ≤ 100000; decide, same_two w1 w2 ?_⟩
      simp only [Bool.not_true, Bool.false_eq_true, if_false, run_bnd, run_ret, run_opt, run_req, run_all, run_choose, run_ite, then_nx, then_rt, then_rl, then_er, then_ct, then_bk, outD_rt, outD_rl, outD_nx, outL_rl, outX_rt, outX_rl, outX_nx, outX_er, mask_nil, mask_cons, mk0_f, mk0_o, mk0_od, mk0_ot, mk0_n, peek_nil, peek_cons, pk_f, pk_o, pk_od, pk_ot, pk_n, dOf_int, dOf_bl, dOf_str, dOf_non, opI0_int, opI_int, unI_int, asB_bl, asI_int, asL_lst, asT_tup, asW_web, eqS_int, eqS_str, ixL_lst, ixT_tup, ixQ_lst, ixQ_tup, lenD_lst, lenD_tup, listD_lst, listD_tup, catD_lst, rng1_int, rng2_int, sName_go, sTup_go, sCons_go, sNil_go, bTup_go, bCons_go, bNil_go, two_go, List.set_cons_zero, List.set_cons_succ, List.getElem?_cons_zero, List.getElem?_cons_succ, Option.join_some, atI_0, atI_1, atI_2, decide_eq_true_eq, wipeE, List.map_cons, List.map_nil, step_nx, step_ct, step_bk, step_rt, step_rl, step_er, vOf_int, vOf_str]
      exact ⟨_, _, _, _, _, _, _, _, _, _, rfl⟩
    · rintro ρ ⟨y2, y3, y4, y5, y6, y7, y8, y9, y10, y11, rfl⟩
      simp only [then_nx]
      refine seq_cut (fun ρ => ∃ c : Int, 0 ≤ c ∧ c < 3 ∧ ρ = [none, some (.f .box), y2, y3, y4, y5, y6, y7, y8, some (.f (.int (40 + c))), y10, y11]) ?_ ?_
      · simp only [takeM_go, run_bnd, run_ret, run_opt, run_req, run_all, run_choose, run_ite, then_nx, then_rt, then_rl, then_er, then_ct, then_bk, outD_rt, outD_rl, outD_nx, outL_rl, outX_rt, outX_rl, outX_nx, outX_er, mask_nil, mask_cons, mk0_f, mk0_o, mk0_od, mk0_ot, mk0_n, peek_nil, peek_cons, pk_f, pk_o, pk_od, pk_ot, pk_n, dOf_int, dOf_bl, dOf_str, dOf_non, opI0_int, opI_int, unI_int, asB_bl, asI_int, asL_lst, asT_tup, asW_web, eqS_int, eqS_str, ixL_lst, ixT_tup, ixQ_lst, ixQ_tup, lenD_lst, lenD_tup, listD_lst, listD_tup, catD_lst, rng1_int, rng2_int, sName_go, sTup_go, sCons_go, sNil_go, bTup_go, bCons_go, bNil_go, two_go, List.set_cons_zero, List.set_cons_succ, List.getElem?_cons_zero, List.getElem?_cons_succ, Option.join_some, atI_0, atI_1, atI_2, decide_eq_true_eq, wipeE, List.map_cons, List.map_nil, step_nx, step_ct, step_bk, step_rt, step_rl, step_er, vOf_int, vOf_str]
        exact ⟨⟨by decide, by decide⟩, fun c hc => ⟨_, rfl, c, hc.1, hc.2, rfl⟩⟩
      rintro ρ ⟨c, c0, c1, rfl⟩
      refine seq_cut (fun ρ => ρ = [none, some (.f .box), y2, y3, y4, y5, y6, y7, y8, some (.f (.int (40 + c))), some (.f (.bl (decide (40 + c + 41 > 81)))), y11]) ?_ ?_
      · simp only [run_bnd, run_ret, run_opt, run_req, run_all, run_choose, run_ite, then_nx, then_rt, then_rl, then_er, then_ct, then_bk, outD_rt, outD_rl, outD_nx, outL_rl, outX_rt, outX_rl, outX_nx, outX_er, mask_nil, mask_cons, mk0_f, mk0_o, mk0_od, mk0_ot, mk0_n, peek_nil, peek_cons, pk_f, pk_o, pk_od, pk_ot, pk_n, dOf_int, dOf_bl, dOf_str, dOf_non, opI0_int, opI_int, unI_int, asB_bl, asI_int, asL_lst, asT_tup, asW_web, eqS_int, eqS_str, ixL_lst, ixT_tup, ixQ_lst, ixQ_tup, lenD_lst, lenD_tup, listD_lst, listD_tup, catD_lst, rng1_int, rng2_int, sName_go, sTup_go, sCons_go, sNil_go, bTup_go, bCons_go, bNil_go, two_go, List.set_cons_zero, List.set_cons_succ, List.getElem?_cons_zero, List.getElem?_cons_succ, Option.join_some, atI_0, atI_1, atI_2, decide_eq_true_eq, wipeE, List.map_cons, List.map_nil, step_nx, step_ct, step_bk, step_rt, step_rl, step_er, vOf_int, vOf_str]
        refine ⟨_, rfl, ?_⟩
        rw [show (decide (81 < 40 + c + 41)) = decide (40 + c + 41 > 81) from rfl]
      rintro ρ rfl
      refine seq_cut (fun ρ => ρ = [none, some (.f .box), y2, y3, y4, y5, y6, y7, y8, some (.f (.int (40 + c))), some (.f (.bl (decide (40 + c + 41 > 81)))), y11]) ?_ ?_
      · simp only [mk0M_go, run_bnd, run_ret, run_opt, run_req, run_all, run_choose, run_ite, then_nx, then_rt, then_rl, then_er, then_ct, then_bk, outD_rt, outD_rl, outD_nx, outL_rl, outX_rt, outX_rl, outX_nx, outX_er, mask_nil, mask_cons, mk0_f, mk0_o, mk0_od, mk0_ot, mk0_n, peek_nil, peek_cons, pk_f, pk_o, pk_od, pk_ot, pk_n, dOf_int, dOf_bl, dOf_str, dOf_non, opI0_int, opI_int, unI_int, asB_bl, asI_int, asL_lst, asT_tup, asW_web, eqS_int, eqS_str, ixL_lst, ixT_tup, ixQ_lst, ixQ_tup, lenD_lst, lenD_tup, listD_lst, listD_tup, catD_lst, rng1_int, rng2_int, sName_go, sTup_go, sCons_go, sNil_go, bTup_go, bCons_go, bNil_go, two_go, List.set_cons_zero, List.set_cons_succ, List.getElem?_cons_zero, List.getElem?_cons_succ, Option.join_some, atI_0, atI_1, atI_2, decide_eq_true_eq, wipeE, List.map_cons, List.map_nil, step_nx, step_ct, step_bk, step_rt, step_rl, step_er, vOf_int, vOf_str]
        refine ⟨⟨by omega, by omega⟩, by decide, ⟨rfl, rfl⟩, ?_⟩
        by_cases h9 : 40 + c + 41 > 81
        · refine bsd_er (web_nil (by omega)) (by omega) (web_nil (by decide)) (by decide) (by omega) (by decide) (by decide) ?_
          simp only [atM_er, run_bnd, run_ret, run_opt, run_req, run_all, run_choose, run_ite, then_nx, then_rt, then_rl, then_er, then_ct, then_bk, outD_rt, outD_rl, outD_nx, outL_rl, outX_rt, outX_rl, outX_nx, outX_er, mask_nil, mask_cons, mk0_f, mk0_o, mk0_od, mk0_ot, mk0_n, peek_nil, peek_cons, pk_f, pk_o, pk_od, pk_ot, pk_n, dOf_int, dOf_bl, dOf_str, dOf_non, opI0_int, opI_int, unI_int, asB_bl, asI_int, asL_lst, asT_tup, asW_web, eqS_int, eqS_str, ixL_lst, ixT_tup, ixQ_lst, ixQ_tup, lenD_lst, lenD_tup, listD_lst, listD_tup, catD_lst, rng1_int, rng2_int, sName_go, sTup_go, sCons_go, sNil_go, bTup_go, bCons_go, bNil_go, two_go, List.set_cons_zero, List.set_cons_succ, List.getElem?_cons_zero, List.getElem?_cons_succ, Option.join_some, atI_0, atI_1, atI_2, decide_eq_true_eq, wipeE, List.map_cons, List.map_nil, step_nx, step_ct, step_bk, step_rt, step_rl, step_er, vOf_int, vOf_str]
          refine ⟨⟨_, aP, eP, by show ("bound" : Str) ≠ "word"; decide⟩, ?_⟩
          simp only [if_pos h9, run_bnd, run_ret, run_opt, run_req, run_all, run_choose, run_ite, then_nx, then_rt, then_rl, then_er, then_ct, then_bk, outD_rt, outD_rl, outD_nx, outL_rl, outX_rt, outX_rl, outX_nx, outX_er, mask_nil, mask_cons, mk0_f, mk0_o, mk0_od, mk0_ot, mk0_n, peek_nil, peek_cons, pk_f, pk_o, pk_od, pk_ot, pk_n, dOf_int, dOf_bl, dOf_str, dOf_non, opI0_int, opI_int, unI_int, asB_bl, asI_int, asL_lst, asT_tup, asW_web, eqS_int, eqS_str, ixL_lst, ixT_tup, ixQ_lst, ixQ_tup, lenD_lst, lenD_tup, listD_lst, listD_tup, catD_lst, rng1_int, rng2_int, sName_go, sTup_go, sCons_go, sNil_go, bTup_go, bCons_go, bNil_go, two_go, List.set_cons_zero, List.set_cons_succ, List.getElem?_cons_zero, List.getElem?_cons_succ, Option.join_some, atI_0, atI_1, atI_2, decide_eq_true_eq, wipeE, List.map_cons, List.map_nil, step_nx, step_ct, step_bk, step_rt, step_rl, step_er, vOf_int, vOf_str]
          refine ⟨by show 2 ≤ 100000; decide, ⟨rfl, by simp [D.deep, deepL], rfl, by simp [D.thin, thinL]⟩, ?_⟩
          simp only [Bool.not_true, Bool.false_eq_true, if_false, run_bnd, run_ret, run_opt, run_req, run_all, run_choose, run_ite, then_nx, then_rt, then_rl, then_er, then_ct, then_bk, outD_rt, outD_rl, outD_nx, outL_rl, outX_rt, outX_rl, outX_nx, outX_er, mask_nil, mask_cons, mk0_f, mk0_o, mk0_od, mk0_ot, mk0_n, peek_nil, peek_cons, pk_f, pk_o, pk_od, pk_ot, pk_n, dOf_int, dOf_bl, dOf_str, dOf_non, opI0_int, opI_int, unI_int, asB_bl, asI_int, asL_lst, asT_tup, asW_web, eqS_int, eqS_str, ixL_lst, ixT_tup, ixQ_lst, ixQ_tup, lenD_lst, lenD_tup, listD_lst, listD_tup, catD_lst, rng1_int, rng2_int, sName_go, sTup_go, sCons_go, sNil_go, bTup_go, bCons_go, bNil_go, two_go, List.set_cons_zero, List.set_cons_succ, List.getElem?_cons_zero, List.getElem?_cons_succ, Option.join_some, atI_0, atI_1, atI_2, decide_eq_true_eq, wipeE, List.map_cons, List.map_nil, step_nx, step_ct, step_bk, step_rt, step_rl, step_er, vOf_int, vOf_str]
          exact ⟨_, rfl, rfl⟩
        · refine bsd_ok (web_nil (by omega)) (web_nil (by decide)) (by omega) (by decide) (by decide) fun u hu => ?_
          simp only [atM_ok, if_neg h9, run_bnd, run_ret, run_opt, run_req, run_all, run_choose, run_ite, then_nx, then_rt, then_rl, then_er, then_ct, then_bk, outD_rt, outD_rl, outD_nx, outL_rl, outX_rt, outX_rl, outX_nx, outX_er, mask_nil, mask_cons, mk0_f, mk0_o, mk0_od, mk0_ot, mk0_n, peek_nil, peek_cons, pk_f, pk_o, pk_od, pk_ot, pk_n, dOf_int, dOf_bl, dOf_str, dOf_non, opI0_int, opI_int, unI_int, asB_bl, asI_int, asL_lst, asT_tup, asW_web, eqS_int, eqS_str, ixL_lst, ixT_tup, ixQ_lst, ixQ_tup, lenD_lst, lenD_tup, listD_lst, listD_tup, catD_lst, rng1_int, rng2_int, sName_go, sTup_go, sCons_go, sNil_go, bTup_go, bCons_go, bNil_go, two_go, List.set_cons_zero, List.set_cons_succ, List.getElem?_cons_zero, List.getElem?_cons_succ, Option.join_some, atI_0, atI_1, atI_2, decide_eq_true_eq, wipeE, List.map_cons, List.map_nil, step_nx, step_ct, step_bk, step_rt, step_rl, step_er, vOf_int, vOf_str]
          refine ⟨⟨rfl, by simp [D.deep, deepL], rfl, by simp [D.thin, thinL]⟩, ?_⟩
          simp only [Bool.not_true, Bool.false_eq_true, if_false, run_bnd, run_ret, run_opt, run_req, run_all, run_choose, run_ite, then_nx, then_rt, then_rl, then_er, then_ct, then_bk, outD_rt, outD_rl, outD_nx, outL_rl, outX_rt, outX_rl, outX_nx, outX_er, mask_nil, mask_cons, mk0_f, mk0_o, mk0_od, mk0_ot, mk0_n, peek_nil, peek_cons, pk_f, pk_o, pk_od, pk_ot, pk_n, dOf_int, dOf_bl, dOf_str, dOf_non, opI0_int, opI_int, unI_int, asB_bl, asI_int, asL_lst, asT_tup, asW_web, eqS_int, eqS_str, ixL_lst, ixT_tup, ixQ_lst, ixQ_tup, lenD_lst, lenD_tup, listD_lst, listD_tup, catD_lst, rng1_int, rng2_int, sName_go, sTup_go, sCons_go, sNil_go, bTup_go, bCons_go, bNil_go, two_go, List.set_cons_zero, List.set_cons_succ, List.getElem?_cons_zero, List.getElem?_cons_succ, Option.join_some, atI_0, atI_1, atI_2, decide_eq_true_eq, wipeE, List.map_cons, List.map_nil, step_nx, step_ct, step_bk, step_rt, step_rl, step_er, vOf_int, vOf_str]
          exact ⟨_, rfl, rfl⟩
      rintro ρ rfl
      refine seq_cut (fun ρ => ρ = [none, some (.f .box), y2, y3, y4, y5, y6, y7, y8, some (.f (.int (40 + c))), some (.f (.bl (decide (40 + c + 41 > 81)))), some (.f (.lst [.int 81, .int 81, .int 0]))]) ?_ ?_
      · simp only [mk0M_go, run_bnd, run_ret, run_opt, run_req, run_all, run_choose, run_ite, then_nx, then_rt, then_rl, then_er, then_ct, then_bk, outD_rt, outD_rl, outD_nx, outL_rl, outX_rt, outX_rl, outX_nx, outX_er, mask_nil, mask_cons, mk0_f, mk0_o, mk0_od, mk0_ot, mk0_n, peek_nil, peek_cons, pk_f, pk_o, pk_od, pk_ot, pk_n, dOf_int, dOf_bl, dOf_str, dOf_non, opI0_int, opI_int, unI_int, asB_bl, asI_int, asL_lst, asT_tup, asW_web, eqS_int, eqS_str, ixL_lst, ixT_tup, ixQ_lst, ixQ_tup, lenD_lst, lenD_tup, listD_lst, listD_tup, catD_lst, rng1_int, rng2_int, sName_go, sTup_go, sCons_go, sNil_go, bTup_go, bCons_go, bNil_go, two_go, List.set_cons_zero, List.set_cons_succ, List.getElem?_cons_zero, List.getElem?_cons_succ, Option.join_some, atI_0, atI_1, atI_2, decide_eq_true_eq, wipeE, List.map_cons, List.map_nil, step_nx, step_ct, step_bk, step_rt, step_rl, step_er, vOf_int, vOf_str]
        refine ⟨by decide, by decide, tms_ok (web_nil (by decide)) (by decide) (web_nil (by decide)) (by decide) (by decide) (by decide) fun u hu => ?_⟩
        simp only [okR_go, lenW_go, run_bnd, run_ret, run_opt, run_req, run_all, run_choose, run_ite, then_nx, then_rt, then_rl, then_er, then_ct, then_bk, outD_rt, outD_rl, outD_nx, outL_rl, outX_rt, outX_rl, outX_nx, outX_er, mask_nil, mask_cons, mk0_f, mk0_o, mk0_od, mk0_ot, mk0_n, peek_nil, peek_cons, pk_f, pk_o, pk_od, pk_ot, pk_n, dOf_int, dOf_bl, dOf_str, dOf_non, opI0_int, opI_int, unI_int, asB_bl, asI_int, asL_lst, asT_tup, asW_web, eqS_int, eqS_str, ixL_lst, ixT_tup, ixQ_lst, ixQ_tup, lenD_lst, lenD_tup, listD_lst, listD_tup, catD_lst, rng1_int, rng2_int, sName_go, sTup_go, sCons_go, sNil_go, bTup_go, bCons_go, bNil_go, two_go, List.set_cons_zero, List.set_cons_succ, List.getElem?_cons_zero, List.getElem?_cons_succ, Option.join_some, atI_0, atI_1, atI_2, decide_eq_true_eq, wipeE, List.map_cons, List.map_nil, step_nx, step_ct, step_bk, step_rt, step_rl, step_er, vOf_int, vOf_str]
        refine ⟨by decide, by decide, tms_ok (web_nil (by decide)) (by decide) (web_nil (by decide)) (by decide) (by decide) (by decide) fun u hu => ?_⟩
        simp only [okR_go, lenW_go, run_bnd, run_ret, run_opt, run_req, run_all, run_choose, run_ite, then_nx, then_rt, then_rl, then_er, then_ct, then_bk, outD_rt, outD_rl, outD_nx, outL_rl, outX_rt, outX_rl, outX_nx, outX_er, mask_nil, mask_cons, mk0_f, mk0_o, mk0_od, mk0_ot, mk0_n, peek_nil, peek_cons, pk_f, pk_o, pk_od, pk_ot, pk_n, dOf_int, dOf_bl, dOf_str, dOf_non, opI0_int, opI_int, unI_int, asB_bl, asI_int, asL_lst, asT_tup, asW_web, eqS_int, eqS_str, ixL_lst, ixT_tup, ixQ_lst, ixQ_tup, lenD_lst, lenD_tup, listD_lst, listD_tup, catD_lst, rng1_int, rng2_int, sName_go, sTup_go, sCons_go, sNil_go, bTup_go, bCons_go, bNil_go, two_go, List.set_cons_zero, List.set_cons_succ, List.getElem?_cons_zero, List.getElem?_cons_succ, Option.join_some, atI_0, atI_1, atI_2, decide_eq_true_eq, wipeE, List.map_cons, List.map_nil, step_nx, step_ct, step_bk, step_rt, step_rl, step_er, vOf_int, vOf_str]
        refine ⟨by decide, by decide, tms_ok (web_nil (by decide)) (by decide) (web_nil (by decide)) (by decide) (by decide) (by decide) fun u hu => ?_⟩
        simp only [okR_go, lenW_go, run_bnd, run_ret, run_opt, run_req, run_all, run_choose, run_ite, then_nx, then_rt, then_rl, then_er, then_ct, then_bk, outD_rt, outD_rl, outD_nx, outL_rl, outX_rt, outX_rl, outX_nx, outX_er, mask_nil, mask_cons, mk0_f, mk0_o, mk0_od, mk0_ot, mk0_n, peek_nil, peek_cons, pk_f, pk_o, pk_od, pk_ot, pk_n, dOf_int, dOf_bl, dOf_str, dOf_non, opI0_int, opI_int, unI_int, asB_bl, asI_int, asL_lst, asT_tup, asW_web, eqS_int, eqS_str, ixL_lst, ixT_tup, ixQ_lst, ixQ_tup, lenD_lst, lenD_tup, listD_lst, listD_tup, catD_lst, rng1_int, rng2_int, sName_go, sTup_go, sCons_go, sNil_go, bTup_go, bCons_go, bNil_go, two_go, List.set_cons_zero, List.set_cons_succ, List.getElem?_cons_zero, List.getElem?_cons_succ, Option.join_some, atI_0, atI_1, atI_2, decide_eq_true_eq, wipeE, List.map_cons, List.map_nil, step_nx, step_ct, step_bk, step_rt, step_rl, step_er, vOf_int, vOf_str]
        exact ⟨by show 3 ≤ 100000; decide, _, rfl, rfl⟩
      rintro ρ rfl
      simp only [mk0M_go, run_bnd, run_ret, run_opt, run_req, run_all, run_choose, run_ite, then_nx, then_rt, then_rl, then_er, then_ct, then_bk, outD_rt, outD_rl, outD_nx, outL_rl, outX_rt, outX_rl, outX_nx, outX_er, mask_nil, mask_cons, mk0_f, mk0_o, mk0_od, mk0_ot, mk0_n, peek_nil, peek_cons, pk_f, pk_o, pk_od, pk_ot, pk_n, dOf_int, dOf_bl, dOf_str, dOf_non, opI0_int, opI_int, unI_int, asB_bl, asI_int, asL_lst, asT_tup, asW_web, eqS_int, eqS_str, ixL_lst, ixT_tup, ixQ_lst, ixQ_tup, lenD_lst, lenD_tup, listD_lst, listD_tup, catD_lst, rng1_int, rng2_int, sName_go, sTup_go, sCons_go, sNil_go, bTup_go, bCons_go, bNil_go, two_go, List.set_cons_zero, List.set_cons_succ, List.getElem?_cons_zero, List.getElem?_cons_succ, Option.join_some, atI_0, atI_1, atI_2, decide_eq_true_eq, wipeE, List.map_cons, List.map_nil, step_nx, step_ct, step_bk, step_rt, step_rl, step_er, vOf_int, vOf_str]
      have si : (D.lst [D.int 81, D.int 81, D.int 0]).std := std_ints [81, 81, 0]
      have sw : (D.str (Str.ofString "TooMany")).std := ⟨⟨rfl, by decide +kernel, by simp [D.deep]⟩, rfl⟩
      have st : (D.tup [D.str (Str.ofString "TooMany"), D.int 81]).std := std_tup (n := 0) (by decide) fun d hd => by
        simp only [List.mem_cons, List.not_mem_nil, or_false] at hd
        rcases hd with rfl | rfl
        · exact ⟨sw, by simp [D.deep]⟩
        · exact ⟨std_int 81, by simp [D.deep]⟩
      refine ⟨by show 3 ≤ 100000; decide, ⟨si.1, si.1⟩, ?_⟩
      rw [if_pos ((eqD_iff si si).mpr rfl)]
      refine ⟨by decide, by decide, ⟨rfl, rfl⟩, ?_⟩
      refine tms_er (web_nil (by decide)) (by decide) (web_nil (by decide)) (by decide) (by decide) (by decide) ?_
      simp only [atM_er, run_bnd, run_ret, run_opt, run_req, run_all, run_choose, run_ite, then_nx, then_rt, then_rl, then_er, then_ct, then_bk, outD_rt, outD_rl, outD_nx, outL_rl, outX_rt, outX_rl, outX_nx, outX_er, mask_nil, mask_cons, mk0_f, mk0_o, mk0_od, mk0_ot, mk0_n, peek_nil, peek_cons, pk_f, pk_o, pk_od, pk_ot, pk_n, dOf_int, dOf_bl, dOf_str, dOf_non, opI0_int, opI_int, unI_int, asB_bl, asI_int, asL_lst, asT_tup, asW_web, eqS_int, eqS_str, ixL_lst, ixT_tup, ixQ_lst, ixQ_tup, lenD_lst, lenD_tup, listD_lst, listD_tup, catD_lst, rng1_int, rng2_int, sName_go, sTup_go, sCons_go, sNil_go, bTup_go, bCons_go, bNil_go, two_go, List.set_cons_zero, List.set_cons_succ, List.getElem?_cons_zero, List.getElem?_cons_succ, Option.join_some, atI_0, atI_1, atI_2, decide_eq_true_eq, wipeE, List.map_cons, List.map_nil, step_nx, step_ct, step_bk, step_rt, step_rl, step_er, vOf_int, vOf_str]
      refine ⟨⟨_, aP, eP, by show ("bound" : Str) ≠ "word"; decide⟩, ?_⟩
      refine ⟨by show 2 ≤ 100000; decide, ⟨st.1, st.1⟩, ?_⟩
      rw [(eqD_iff st st).mpr rfl]
end
end Dv
namespace Wb
open PySem PySem.Spec PyProof.Rows L2 RZ Sg Tm
open Dv (sLaw sbeside stimes sRMore s_law_told s_law_beside s_law_times sWLen spLaw)
def fI (K : PySem.W.Frag) (C : Addr) (x : Str) (v : Option Value) : Bool := decide (PySem.W.findIn K (.ref C) x = some v)
theorem nd {K : PySem.W.Frag} {C : Addr} {x : Str} (h : fI K C x none = true) : NoAttr K C x := (of_decide_eq_true h : PySem.W.findIn K (.ref C) x = some none)
theorem all_get {l : List Bool} (h : l.all id = true) (n : Nat) {b : Bool} (e : l[n]? = some b) : b = true := List.all_eq_true.mp h b (List.mem_of_getElem? e)
set_option maxHeartbeats 4000000 in
theorem all_mk {l : PySem.W.OpenLaw} {w : World} {K : PySem.W.Frag} {h : Heap} {mg : Str → Option Value} {fa : Addr} {f_sRA : Addr}
    {oc_sRA kV_sRA dc_sRA pm_sRA cd_sRA ct_sRA : Value} {od_sRA an_sRA : Option Addr} {sl_sRA : Array (Option Value)}
    {f_sRM : Addr}
    {oc_sRM kV_sRM dc_sRM pm_sRM cd_sRM ct_sRM : Value} {od_sRM an_sRM : Option Addr} {sl_sRM : Array (Option Value)}
    {f_sGat : Addr}
    {oc_sGat kV_sGat dc_sGat pm_sGat cd_sGat ct_sGat : Value} {od_sGat an_sGat : Option Addr} {sl_sGat : Array (Option Value)}
    {f_sBox : Addr}
    {oc_sBox kV_sBox dc_sBox pm_sBox cd_sBox ct_sBox : Value} {od_sBox an_sBox : Option Addr} {sl_sBox : Array (Option Value)}
    {f_sTake : Addr}
    {oc_sTake kV_sTake dc_sTake pm_sTake cd_sTake ct_sTake : Value} {od_sTake an_sTake : Option Addr} {sl_sTake : Array (Option Value)}
    {f_sOne : Addr}
    {oc_sOne kV_sOne dc_sOne pm_sOne cd_sOne ct_sOne : Value} {od_sOne an_sOne : Option Addr} {sl_sOne : Array (Option Value)}
    {f_sSame : Addr}
    {oc_sSame kV_sSame dc_sSame pm_sSame cd_sSame ct_sSame : Value} {od_sSame an_sSame : Option Addr} {sl_sSame : Array (Option Value)}
    {f_sUnlike : Addr}
    {oc_sUnlike kV_sUnlike dc_sUnlike pm_sUnlike cd_sUnlike ct_sUnlike : Value} {od_sUnlike an_sUnlike : Option Addr} {sl_sUnlike : Array (Option Value)}
    {f_sHue : Addr}
    {oc_sHue kV_sHue dc_sHue pm_sHue cd_sHue ct_sHue : Value} {od_sHue an_sHue : Option Addr} {sl_sHue : Array (Option Value)}
    {f_sSign : Addr}
    {oc_sSign kV_sSign dc_sSign pm_sSign cd_sSign ct_sSign : Value} {od_sSign an_sSign : Option Addr} {sl_sSign : Array (Option Value)}
    {f_sArrow : Addr}
    {oc_sArrow kV_sArrow dc_sArrow pm_sArrow cd_sArrow ct_sArrow : Value} {od_sArrow an_sArrow : Option Addr} {sl_sArrow : Array (Option Value)}
    {f_sWeb : Addr}
    {oc_sWeb kV_sWeb dc_sWeb pm_sWeb cd_sWeb ct_sWeb : Value} {od_sWeb an_sWeb : Option Addr} {sl_sWeb : Array (Option Value)}
    {f_sMade : Addr}
    {oc_sMade kV_sMade dc_sMade pm_sMade cd_sMade ct_sMade : Value} {od_sMade an_sMade : Option Addr} {sl_sMade : Array (Option Value)}
    {f_sRMore : Addr}
    {oc_sRMore kV_sRMore dc_sRMore pm_sRMore cd_sRMore ct_sRMore : Value} {od_sRMore an_sRMore : Option Addr} {sl_sRMore : Array (Option Value)}
    {f_sbeside : Addr}
    {oc_sbeside kV_sbeside dc_sbeside pm_sbeside cd_sbeside ct_sbeside : Value} {od_sbeside an_sbeside : Option Addr} {sl_sbeside : Array (Option Value)}
    {f_stimes : Addr}
    {oc_stimes kV_stimes dc_stimes pm_stimes cd_stimes ct_stimes : Value} {od_stimes an_stimes : Option Addr} {sl_stimes : Array (Option Value)}
    {f_s_law_told : Addr}
    {oc_s_law_told kV_s_law_told dc_s_law_told pm_s_law_told cd_s_law_told ct_s_law_told : Value} {od_s_law_told an_s_law_told : Option Addr} {sl_s_law_told : Array (Option Value)}
    {f_s_law_beside : Addr}
    {oc_s_law_beside kV_s_law_beside dc_s_law_beside pm_s_law_beside cd_s_law_beside ct_s_law_beside : Value} {od_s_law_beside an_s_law_beside : Option Addr} {sl_s_law_beside : Array (Option Value)}
    {f_s_law_times : Addr}
    {oc_s_law_times kV_s_law_times dc_s_law_times pm_s_law_times cd_s_law_times ct_s_law_times : Value} {od_s_law_times an_s_law_times : Option Addr} {sl_s_law_times : Array (Option Value)}
    {f_sAt : Addr}
    {oc_sAt kV_sAt dc_sAt pm_sAt cd_sAt ct_sAt : Value} {od_sAt an_sAt : Option Addr} {sl_sAt : Array (Option Value)}
    {f_sLaw : Addr}
    {cL PT : Addr}
    {oc_sLaw kV_sLaw dc_sLaw pm_sLaw ct_sLaw : Value} {od_sLaw an_sLaw : Option Addr} {sl_sLaw : Array (Option Value)}
    {ecL : Value} {dcL : Option Addr} {vsL : Array Value} {slL : Array (Option Value)}
    {C f_sInit D ta tm : Addr}
    {oc_sInit dc_sInit pm_sInit cd_sInit ct_sInit : Value} {od_sInit an_sInit : Option Addr} {sl_sInit : Array (Option Value)}
    {odta : Option Addr} {nta : Nat} {slta : Array (Option Value)}
    {odtm : Option Addr} {ntm : Nat} {sltm : Array (Option Value)}
    {t1 t2 t3 : Tok}
    {f_sPoints : Addr}
    {oc_sPoints kV_sPoints dc_sPoints pm_sPoints cd_sPoints ct_sPoints : Value} {od_sPoints an_sPoints : Option Addr} {sl_sPoints : Array (Option Value)}
    {f_sArrows : Addr}
    {oc_sArrows kV_sArrows dc_sArrows pm_sArrows cd_sArrows ct_sArrows : Value} {od_sArrows an_sArrows : Option Addr} {sl_sArrows : Array (Option Value)}
    {f_sMarks : Addr}
    {oc_sMarks kV_sMarks dc_sMarks pm_sMarks cd_sMarks ct_sMarks : Value} {od_sMarks an_sMarks : Option Addr} {sl_sMarks : Array (Option Value)}
    {f_sWLen : Addr}
    {oc_sWLen kV_sWLen dc_sWLen pm_sWLen cd_sWLen ct_sWLen : Value} {od_sWLen an_sWLen : Option Addr} {sl_sWLen : Array (Option Value)}
    {C_ba : Addr}
    {C_bm : Addr}
    {C_bt : Addr}
    {C_bs : Addr}
    {C_sz : Addr}
    {C_pt : Addr}
    {C_nu : Addr}
    {C_tm : Addr}
    {f_sETooMany : Addr}
    {oc_sETooMany kV_sETooMany dc_sETooMany pm_sETooMany cd_sETooMany ct_sETooMany : Value} {od_sETooMany an_sETooMany : Option Addr} {sl_sETooMany : Array (Option Value)}
    (X : K.In h) (G : h.Ns mainGlobals mg) (hfa : mg "law" = some (.ref fa)) (own : LamX.OwnTab K fa h) 
    (a_sRA : PySem.W.nsIn K mainGlobals "refuse_bad_arrows" = some (some (.ref f_sRA)))
    (l_sRA : K.lookup f_sRA = some ⟨oc_sRA, od_sRA, .func (PySem.W.fnOf "refuse_bad_arrows" "refuse_bad_arrows" (defArgs sRA) (defBody sRA) (defScope sRA) .none kV_sRA dc_sRA pm_sRA an_sRA cd_sRA ct_sRA), sl_sRA⟩)
    (c_sRA : PySem.W.codeIn K cd_sRA "refuse_bad_arrows" = true)
    (k_sRA : PySem.W.keepIn K (.ref f_sRA) = true)
    (a_sRM : PySem.W.nsIn K mainGlobals "refuse_bad_marks" = some (some (.ref f_sRM)))
    (l_sRM : K.lookup f_sRM = some ⟨oc_sRM, od_sRM, .func (PySem.W.fnOf "refuse_bad_marks" "refuse_bad_marks" (defArgs sRM) (defBody sRM) (defScope sRM) .none kV_sRM dc_sRM pm_sRM an_sRM cd_sRM ct_sRM), sl_sRM⟩)
    (c_sRM : PySem.W.codeIn K cd_sRM "refuse_bad_marks" = true)
    (k_sRM : PySem.W.keepIn K (.ref f_sRM) = true)
    (a_sGat : PySem.W.nsIn K mainGlobals "gathered" = some (some (.ref f_sGat)))
    (l_sGat : K.lookup f_sGat = some ⟨oc_sGat, od_sGat, .func (PySem.W.fnOf "gathered" "gathered" (defArgs sGat) (defBody sGat) (defScope sGat) .none kV_sGat dc_sGat pm_sGat an_sGat cd_sGat ct_sGat), sl_sGat⟩)
    (c_sGat : PySem.W.codeIn K cd_sGat "gathered" = true)
    (k_sGat : PySem.W.keepIn K (.ref f_sGat) = true)
    (a_sBox : PySem.W.nsIn K mainGlobals "_law_box" = some (some (.ref f_sBox)))
    (l_sBox : K.lookup f_sBox = some ⟨oc_sBox, od_sBox, .func (PySem.W.fnOf "_law_box" "_law_box" (defArgs sBox) (defBody sBox) (defScope sBox) .none kV_sBox dc_sBox pm_sBox an_sBox cd_sBox ct_sBox), sl_sBox⟩)
    (c_sBox : PySem.W.codeIn K cd_sBox "_law_box" = true)
    (k_sBox : PySem.W.keepIn K (.ref f_sBox) = true)
    (a_sTake : PySem.W.nsIn K mainGlobals "_law_take" = some (some (.ref f_sTake)))
    (l_sTake : K.lookup f_sTake = some ⟨oc_sTake, od_sTake, .func (PySem.W.fnOf "_law_take" "_law_take" (defArgs sTake) (defBody sTake) (defScope sTake) .none kV_sTake dc_sTake pm_sTake an_sTake cd_sTake ct_sTake), sl_sTake⟩)
    (c_sTake : PySem.W.codeIn K cd_sTake "_law_take" = true)
    (k_sTake : PySem.W.keepIn K (.ref f_sTake) = true)
    (a_sOne : PySem.W.nsIn K mainGlobals "_law_one" = some (some (.ref f_sOne)))
    (l_sOne : K.lookup f_sOne = some ⟨oc_sOne, od_sOne, .func (PySem.W.fnOf "_law_one" "_law_one" (defArgs sOne) (defBody sOne) (defScope sOne) .none kV_sOne dc_sOne pm_sOne an_sOne cd_sOne ct_sOne), sl_sOne⟩)
    (c_sOne : PySem.W.codeIn K cd_sOne "_law_one" = true)
    (k_sOne : PySem.W.keepIn K (.ref f_sOne) = true)
    (a_sSame : PySem.W.nsIn K mainGlobals "_law_same" = some (some (.ref f_sSame)))
    (l_sSame : K.lookup f_sSame = some ⟨oc_sSame, od_sSame, .func (PySem.W.fnOf "_law_same" "_law_same" (defArgs sSame) (defBody sSame) (defScope sSame) .none kV_sSame dc_sSame pm_sSame an_sSame cd_sSame ct_sSame), sl_sSame⟩)
    (c_sSame : PySem.W.codeIn K cd_sSame "_law_same" = true)
    (k_sSame : PySem.W.keepIn K (.ref f_sSame) = true)
    (a_sUnlike : PySem.W.nsIn K mainGlobals "_law_unlike" = some (some (.ref f_sUnlike)))
    (l_sUnlike : K.lookup f_sUnlike = some ⟨oc_sUnlike, od_sUnlike, .func (PySem.W.fnOf "_law_unlike" "_law_unlike" (defArgs sUnlike) (defBody sUnlike) (defScope sUnlike) .none kV_sUnlike dc_sUnlike pm_sUnlike an_sUnlike cd_sUnlike ct_sUnlike), sl_sUnlike⟩)
    (c_sUnlike : PySem.W.codeIn K cd_sUnlike "_law_unlike" = true)
    (k_sUnlike : PySem.W.keepIn K (.ref f_sUnlike) = true)
    (a_sHue : PySem.W.nsIn K mainGlobals "_law_hue" = some (some (.ref f_sHue)))
    (l_sHue : K.lookup f_sHue = some ⟨oc_sHue, od_sHue, .func (PySem.W.fnOf "_law_hue" "_law_hue" (defArgs sHue) (defBody sHue) (defScope sHue) .none kV_sHue dc_sHue pm_sHue an_sHue cd_sHue ct_sHue), sl_sHue⟩)
    (c_sHue : PySem.W.codeIn K cd_sHue "_law_hue" = true)
    (k_sHue : PySem.W.keepIn K (.ref f_sHue) = true)
    (a_sSign : PySem.W.nsIn K mainGlobals "_law_sign" = some (some (.ref f_sSign)))
    (l_sSign : K.lookup f_sSign = some ⟨oc_sSign, od_sSign, .func (PySem.W.fnOf "_law_sign" "_law_sign" (defArgs sSign) (defBody sSign) (defScope sSign) .none kV_sSign dc_sSign pm_sSign an_sSign cd_sSign ct_sSign), sl_sSign⟩)
    (c_sSign : PySem.W.codeIn K cd_sSign "_law_sign" = true)
    (k_sSign : PySem.W.keepIn K (.ref f_sSign) = true)
    (a_sArrow : PySem.W.nsIn K mainGlobals "_law_arrow" = some (some (.ref f_sArrow)))
    (l_sArrow : K.lookup f_sArrow = some ⟨oc_sArrow, od_sArrow, .func (PySem.W.fnOf "_law_arrow" "_law_arrow" (defArgs sArrow) (defBody sArrow) (defScope sArrow) .none kV_sArrow dc_sArrow pm_sArrow an_sArrow cd_sArrow ct_sArrow), sl_sArrow⟩)
    (c_sArrow : PySem.W.codeIn K cd_sArrow "_law_arrow" = true)
    (k_sArrow : PySem.W.keepIn K (.ref f_sArrow) = true)
    (a_sWeb : PySem.W.nsIn K mainGlobals "_law_web" = some (some (.ref f_sWeb)))
    (l_sWeb : K.lookup f_sWeb = some ⟨oc_sWeb, od_sWeb, .func (PySem.W.fnOf "_law_web" "_law_web" (defArgs sWeb) (defBody sWeb) (defScope sWeb) .none kV_sWeb dc_sWeb pm_sWeb an_sWeb cd_sWeb ct_sWeb), sl_sWeb⟩)
    (c_sWeb : PySem.W.codeIn K cd_sWeb "_law_web" = true)
    (k_sWeb : PySem.W.keepIn K (.ref f_sWeb) = true)
    (a_sMade : PySem.W.nsIn K mainGlobals "_law_made" = some (some (.ref f_sMade)))
    (l_sMade : K.lookup f_sMade = some ⟨oc_sMade, od_sMade, .func (PySem.W.fnOf "_law_made" "_law_made" (defArgs sMade) (defBody sMade) (defScope sMade) .none kV_sMade dc_sMade pm_sMade an_sMade cd_sMade ct_sMade), sl_sMade⟩)
    (c_sMade : PySem.W.codeIn K cd_sMade "_law_made" = true)
    (k_sMade : PySem.W.keepIn K (.ref f_sMade) = true)
    (a_sRMore : PySem.W.nsIn K mainGlobals "refuse_more_points" = some (some (.ref f_sRMore)))
    (l_sRMore : K.lookup f_sRMore = some ⟨oc_sRMore, od_sRMore, .func (PySem.W.fnOf "refuse_more_points" "refuse_more_points" (defArgs sRMore) (defBody sRMore) (defScope sRMore) .none kV_sRMore dc_sRMore pm_sRMore an_sRMore cd_sRMore ct_sRMore), sl_sRMore⟩)
    (c_sRMore : PySem.W.codeIn K cd_sRMore "refuse_more_points" = true)
    (k_sRMore : PySem.W.keepIn K (.ref f_sRMore) = true)
    (a_sbeside : PySem.W.nsIn K mainGlobals "beside" = some (some (.ref f_sbeside)))
    (l_sbeside : K.lookup f_sbeside = some ⟨oc_sbeside, od_sbeside, .func (PySem.W.fnOf "beside" "beside" (defArgs sbeside) (defBody sbeside) (defScope sbeside) .none kV_sbeside dc_sbeside pm_sbeside an_sbeside cd_sbeside ct_sbeside), sl_sbeside⟩)
    (c_sbeside : PySem.W.codeIn K cd_sbeside "beside" = true)
    (k_sbeside : PySem.W.keepIn K (.ref f_sbeside) = true)
    (a_stimes : PySem.W.nsIn K mainGlobals "times" = some (some (.ref f_stimes)))
    (l_stimes : K.lookup f_stimes = some ⟨oc_stimes, od_stimes, .func (PySem.W.fnOf "times" "times" (defArgs stimes) (defBody stimes) (defScope stimes) .none kV_stimes dc_stimes pm_stimes an_stimes cd_stimes ct_stimes), sl_stimes⟩)
    (c_stimes : PySem.W.codeIn K cd_stimes "times" = true)
    (k_stimes : PySem.W.keepIn K (.ref f_stimes) = true)
    (a_s_law_told : PySem.W.nsIn K mainGlobals "_law_told" = some (some (.ref f_s_law_told)))
    (l_s_law_told : K.lookup f_s_law_told = some ⟨oc_s_law_told, od_s_law_told, .func (PySem.W.fnOf "_law_told" "_law_told" (defArgs s_law_told) (defBody s_law_told) (defScope s_law_told) .none kV_s_law_told dc_s_law_told pm_s_law_told an_s_law_told cd_s_law_told ct_s_law_told), sl_s_law_told⟩)
    (c_s_law_told : PySem.W.codeIn K cd_s_law_told "_law_told" = true)
    (k_s_law_told : PySem.W.keepIn K (.ref f_s_law_told) = true)
    (a_s_law_beside : PySem.W.nsIn K mainGlobals "_law_beside" = some (some (.ref f_s_law_beside)))
    (l_s_law_beside : K.lookup f_s_law_beside = some ⟨oc_s_law_beside, od_s_law_beside, .func (PySem.W.fnOf "_law_beside" "_law_beside" (defArgs s_law_beside) (defBody s_law_beside) (defScope s_law_beside) .none kV_s_law_beside dc_s_law_beside pm_s_law_beside an_s_law_beside cd_s_law_beside ct_s_law_beside), sl_s_law_beside⟩)
    (c_s_law_beside : PySem.W.codeIn K cd_s_law_beside "_law_beside" = true)
    (k_s_law_beside : PySem.W.keepIn K (.ref f_s_law_beside) = true)
    (a_s_law_times : PySem.W.nsIn K mainGlobals "_law_times" = some (some (.ref f_s_law_times)))
    (l_s_law_times : K.lookup f_s_law_times = some ⟨oc_s_law_times, od_s_law_times, .func (PySem.W.fnOf "_law_times" "_law_times" (defArgs s_law_times) (defBody s_law_times) (defScope s_law_times) .none kV_s_law_times dc_s_law_times pm_s_law_times an_s_law_times cd_s_law_times ct_s_law_times), sl_s_law_times⟩)
    (c_s_law_times : PySem.W.codeIn K cd_s_law_times "_law_times" = true)
    (k_s_law_times : PySem.W.keepIn K (.ref f_s_law_times) = true)
    (a_sAt : PySem.W.nsIn K mainGlobals "_law_at" = some (some (.ref f_sAt)))
    (l_sAt : K.lookup f_sAt = some ⟨oc_sAt, od_sAt, .func (PySem.W.fnOf "_law_at" "_law_at" (defArgs sAt) (defBody sAt) (defScope sAt) .none kV_sAt dc_sAt pm_sAt an_sAt cd_sAt ct_sAt), sl_sAt⟩)
    (c_sAt : PySem.W.codeIn K cd_sAt "_law_at" = true)
    (k_sAt : PySem.W.keepIn K (.ref f_sAt) = true)
    (a_sLaw : PySem.W.nsIn K mainGlobals "law" = some (some (.ref f_sLaw)))
    (l_sLaw : K.lookup f_sLaw = some ⟨oc_sLaw, od_sLaw, .func (PySem.W.fnOf "law" "law" (defArgs sLaw) (defBody sLaw) (defScope sLaw) .none kV_sLaw dc_sLaw pm_sLaw an_sLaw (.ref cL) ct_sLaw), sl_sLaw⟩)
    (c_sLaw : PySem.W.codeIn K (.ref cL) "law" = true)
    (k_sLaw : PySem.W.keepIn K (.ref f_sLaw) = true)
    (lcL : K.lookup cL = some ⟨ecL, dcL, .fields vsL, slL⟩)
    (v11 : vsL[11]? = some (.ref PT))
    (z_len : PySem.W.nsIn K mainGlobals "len" = some none)
    (z_list : PySem.W.nsIn K mainGlobals "list" = some none)
    (z_range : PySem.W.nsIn K mainGlobals "range" = some none)
    (z_isinstance : PySem.W.nsIn K mainGlobals "isinstance" = some none)
    (z_tuple : PySem.W.nsIn K mainGlobals "tuple" = some none)
    (z_bool : PySem.W.nsIn K mainGlobals "bool" = some none)
    (z_int : PySem.W.nsIn K mainGlobals "int" = some none)
    (z_str : PySem.W.nsIn K mainGlobals "str" = some none)
    (z_all : PySem.W.nsIn K mainGlobals "all" = some none)
    (z_zip : PySem.W.nsIn K mainGlobals "zip" = some none)
    (z_enumerate : PySem.W.nsIn K mainGlobals "enumerate" = some none)
    (z_set : PySem.W.nsIn K mainGlobals "set" = some none)
    (z_sorted : PySem.W.nsIn K mainGlobals "sorted" = some none)
    (aC : PySem.W.nsIn K mainGlobals "Web" = some (some (.ref C)))
    (jI : PySem.W.findIn K (.ref C) "__init__" = some (some (.ref f_sInit)))
    (l_sInit : K.lookup f_sInit = some ⟨oc_sInit, od_sInit, .func (PySem.W.fnOf "__init__" "Web.__init__" (defArgs sInit) (defBody sInit) (defScope sInit) .none (.ref D) dc_sInit pm_sInit an_sInit cd_sInit ct_sInit), sl_sInit⟩)
    (c_sInit : PySem.W.codeIn K cd_sInit "Web.__init__" = true)
    (k_sInit : PySem.W.keepIn K (.ref f_sInit) = true)
    (da : PySem.W.nsIn K D "arrows" = some (some (.ref ta)))
    (dm : PySem.W.nsIn K D "marks" = some (some (.ref tm)))
    (eta : K.lookup ta = some ⟨.type "tuple", odta, .seq #[] nta, slta⟩)
    (etm : K.lookup tm = some ⟨.type "tuple", odtm, .seq #[] ntm, sltm⟩)
    (g1 : PySem.W.nsIn K mainGlobals "MOST_POINTS" = some (some (.int 81 t1)))
    (g2 : PySem.W.nsIn K mainGlobals "COLOURS" = some (some (.str "abc" t2)))
    (g3 : PySem.W.nsIn K mainGlobals "MARKS" = some (some (.str "pqr" t3)))
    (j_sPoints : PySem.W.findIn K (.ref C) "points" = some (some (.ref f_sPoints)))
    (l_sPoints : K.lookup f_sPoints = some ⟨oc_sPoints, od_sPoints, .func (PySem.W.fnOf "points" "Web.points" (defArgs sPoints) (defBody sPoints) (defScope sPoints) .none kV_sPoints dc_sPoints pm_sPoints an_sPoints cd_sPoints ct_sPoints), sl_sPoints⟩)
    (c_sPoints : PySem.W.codeIn K cd_sPoints "Web.points" = true)
    (k_sPoints : PySem.W.keepIn K (.ref f_sPoints) = true)
    (j_sArrows : PySem.W.findIn K (.ref C) "arrows" = some (some (.ref f_sArrows)))
    (l_sArrows : K.lookup f_sArrows = some ⟨oc_sArrows, od_sArrows, .func (PySem.W.fnOf "arrows" "Web.arrows" (defArgs sArrows) (defBody sArrows) (defScope sArrows) .none kV_sArrows dc_sArrows pm_sArrows an_sArrows cd_sArrows ct_sArrows), sl_sArrows⟩)
    (c_sArrows : PySem.W.codeIn K cd_sArrows "Web.arrows" = true)
    (k_sArrows : PySem.W.keepIn K (.ref f_sArrows) = true)
    (j_sMarks : PySem.W.findIn K (.ref C) "marks" = some (some (.ref f_sMarks)))
    (l_sMarks : K.lookup f_sMarks = some ⟨oc_sMarks, od_sMarks, .func (PySem.W.fnOf "marks" "Web.marks" (defArgs sMarks) (defBody sMarks) (defScope sMarks) .none kV_sMarks dc_sMarks pm_sMarks an_sMarks cd_sMarks ct_sMarks), sl_sMarks⟩)
    (c_sMarks : PySem.W.codeIn K cd_sMarks "Web.marks" = true)
    (k_sMarks : PySem.W.keepIn K (.ref f_sMarks) = true)
    (j_sWLen : PySem.W.findIn K (.ref C) "__len__" = some (some (.ref f_sWLen)))
    (l_sWLen : K.lookup f_sWLen = some ⟨oc_sWLen, od_sWLen, .func (PySem.W.fnOf "__len__" "Web.__len__" (defArgs sWLen) (defBody sWLen) (defScope sWLen) .none kV_sWLen dc_sWLen pm_sWLen an_sWLen cd_sWLen ct_sWLen), sl_sWLen⟩)
    (c_sWLen : PySem.W.codeIn K cd_sWLen "Web.__len__" = true)
    (k_sWLen : PySem.W.keepIn K (.ref f_sWLen) = true)
    (a_ba : PySem.W.nsIn K mainGlobals "BadArrow" = some (some (.ref C_ba)))
    (a_bm : PySem.W.nsIn K mainGlobals "BadMark" = some (some (.ref C_bm)))
    (a_bt : PySem.W.nsIn K mainGlobals "BadText" = some (some (.ref C_bt)))
    (a_bs : PySem.W.nsIn K mainGlobals "BadStrike" = some (some (.ref C_bs)))
    (a_sz : PySem.W.nsIn K mainGlobals "BadSize" = some (some (.ref C_sz)))
    (a_pt : PySem.W.nsIn K mainGlobals "BadPoint" = some (some (.ref C_pt)))
    (a_nu : PySem.W.nsIn K mainGlobals "BadNumber" = some (some (.ref C_nu)))
    (a_tm : PySem.W.nsIn K mainGlobals "TooMany" = some (some (.ref C_tm)))
    (j_tm : PySem.W.findIn K (.ref C_tm) "__init__" = some (some (.ref f_sETooMany)))
    (l_sETooMany : K.lookup f_sETooMany = some ⟨oc_sETooMany, od_sETooMany, .func (PySem.W.fnOf "__init__" "TooMany.__init__" (defArgs sETooMany) (defBody sETooMany) (defScope sETooMany) .none kV_sETooMany dc_sETooMany pm_sETooMany an_sETooMany cd_sETooMany ct_sETooMany), sl_sETooMany⟩)
    (c_sETooMany : PySem.W.codeIn K cd_sETooMany "TooMany.__init__" = true)
    (k_sETooMany : PySem.W.keepIn K (.ref f_sETooMany) = true)
    (ck : ([PySem.W.plainGet K C Str.empty, PySem.W.hasDictIn K C, PySem.W.plainOver K C, fI K C "__setattr__" (some (.builtin "object.__setattr__")), fI K C "places" none, fI K C "arrow_rows" none, fI K C "mark_rows" none, fI K C "onward" none, fI K C "backward" none, PySem.W.makesIn K C, fI K C "__init__" (some (.ref f_sInit)), PySem.W.isFn K (.ref f_sInit), PySem.W.keepIn K (.ref C), fI K C "points" (some (.ref f_sPoints)), PySem.W.isFn K (.ref f_sPoints), fI K C "arrows" (some (.ref f_sArrows)), PySem.W.isFn K (.ref f_sArrows), fI K C "marks" (some (.ref f_sMarks)), PySem.W.isFn K (.ref f_sMarks), fI K C "__len__" (some (.ref f_sWLen)), PySem.W.isFn K (.ref f_sWLen), errB K C_tm f_sETooMany "bound", atB K ⟨C_ba, C_bm, C_bt, C_bs, C_sz, C_pt, C_nu, C_tm⟩ C_tm 2, PySem.W.codeHdIn K cL PT, (K.lookup PT).isNone] : List Bool).all id = true) :
    LamX.LawAtS l w K CX0 10 63 "_law_script" mg fa h := by
  have e := hfa.symm.trans (PySem.W.mg_of X G a_sLaw)
  cases e
  have F_sRA := fun_mk (st := sRA) l_sRA c_sRA k_sRA
  have b_sRA := F_sRA.binds (ps := ["points", "arrows"]) fun _ _ _ _ _ _ us hl => match us, hl with | [_, _], _ => rfl
  have F_sRM := fun_mk (st := sRM) l_sRM c_sRM k_sRM
  have b_sRM := F_sRM.binds (ps := ["points", "marks"]) fun _ _ _ _ _ _ us hl => match us, hl with | [_, _], _ => rfl
  have F_sGat := fun_mk (st := sGat) l_sGat c_sGat k_sGat
  have b_sGat := F_sGat.binds (ps := ["rows"]) fun _ _ _ _ _ _ us hl => match us, hl with | [_], _ => rfl
  have F_sBox := fun_mk (st := sBox) l_sBox c_sBox k_sBox
  have b_sBox := F_sBox.binds (ps := ["_law_script"]) fun _ _ _ _ _ _ us hl => match us, hl with | [_], _ => rfl
  have F_sTake := fun_mk (st := sTake) l_sTake c_sTake k_sTake
  have b_sTake := F_sTake.binds (ps := ["_law_box_here", "_law_many"]) fun _ _ _ _ _ _ us hl => match us, hl with | [_, _], _ => rfl
  have F_sOne := fun_mk (st := sOne) l_sOne c_sOne k_sOne
  have b_sOne := F_sOne.binds (ps := ["_law_box_here", "_law_some"]) fun _ _ _ _ _ _ us hl => match us, hl with | [_, _], _ => rfl
  have F_sSame := fun_mk (st := sSame) l_sSame c_sSame k_sSame
  have b_sSame := F_sSame.binds (ps := ["_law_found", "_law_due"]) fun _ _ _ _ _ _ us hl => match us, hl with | [_, _], _ => rfl
  have F_sUnlike := fun_mk (st := sUnlike) l_sUnlike c_sUnlike k_sUnlike
  have b_sUnlike := F_sUnlike.binds (ps := ["_law_some"]) fun _ _ _ _ _ _ us hl => match us, hl with | [_], _ => rfl
  have F_sHue := fun_mk (st := sHue) l_sHue c_sHue k_sHue
  have b_sHue := F_sHue.binds (ps := ["_law_box_here"]) fun _ _ _ _ _ _ us hl => match us, hl with | [_], _ => rfl
  have F_sSign := fun_mk (st := sSign) l_sSign c_sSign k_sSign
  have b_sSign := F_sSign.binds (ps := ["_law_box_here"]) fun _ _ _ _ _ _ us hl => match us, hl with | [_], _ => rfl
  have F_sArrow := fun_mk (st := sArrow) l_sArrow c_sArrow k_sArrow
  have b_sArrow := F_sArrow.binds (ps := ["_law_box_here", "_law_many"]) fun _ _ _ _ _ _ us hl => match us, hl with | [_, _], _ => rfl
  have F_sWeb := fun_mk (st := sWeb) l_sWeb c_sWeb k_sWeb
  have b_sWeb := F_sWeb.binds (ps := ["_law_box_here", "_law_low", "_law_high"]) fun _ _ _ _ _ _ us hl => match us, hl with | [_, _, _], _ => rfl
  have F_sMade := fun_mk (st := sMade) l_sMade c_sMade k_sMade
  have b_sMade := F_sMade.binds (ps := ["_law_m"]) fun _ _ _ _ _ _ us hl => match us, hl with | [_], _ => rfl
  have F_sRMore := fun_mk (st := sRMore) l_sRMore c_sRMore k_sRMore
  have b_sRMore := F_sRMore.binds (ps := ["points"]) fun _ _ _ _ _ _ us hl => match us, hl with | [_], _ => rfl
  have F_sbeside := fun_mk (st := sbeside) l_sbeside c_sbeside k_sbeside
  have b_sbeside := F_sbeside.binds (ps := ["one", "other"]) fun _ _ _ _ _ _ us hl => match us, hl with | [_, _], _ => rfl
  have F_stimes := fun_mk (st := stimes) l_stimes c_stimes k_stimes
  have b_stimes := F_stimes.binds (ps := ["one", "other"]) fun _ _ _ _ _ _ us hl => match us, hl with | [_, _], _ => rfl
  have F_s_law_told := fun_mk (st := s_law_told) l_s_law_told c_s_law_told k_s_law_told
  have b_s_law_told := F_s_law_told.binds (ps := ["_law_web_here"]) fun _ _ _ _ _ _ us hl => match us, hl with | [_], _ => rfl
  have F_s_law_beside := fun_mk (st := s_law_beside) l_s_law_beside c_s_law_beside k_s_law_beside
  have b_s_law_beside := F_s_law_beside.binds (ps := ["_law_m", "_law_n"]) fun _ _ _ _ _ _ us hl => match us, hl with | [_, _], _ => rfl
  have F_s_law_times := fun_mk (st := s_law_times) l_s_law_times c_s_law_times k_s_law_times
  have b_s_law_times := F_s_law_times.binds (ps := ["_law_m", "_law_n"]) fun _ _ _ _ _ _ us hl => match us, hl with | [_, _], _ => rfl
  have F_sAt := fun_mk (st := sAt) l_sAt c_sAt k_sAt
  have b_sAt := F_sAt.binds (ps := ["_law_ask"]) fun _ _ _ _ _ _ us hl => match us, hl with | [_], _ => rfl
  have F_sLaw := funC_mk (st := sLaw) l_sLaw c_sLaw k_sLaw
  have cl : Cls K C := ⟨(all_get ck 0 rfl), (all_get ck 1 rfl), (all_get ck 2 rfl), (of_decide_eq_true (all_get ck 3 rfl))⟩
  have wt : WT K mg C := ⟨cl, nd (all_get ck 4 rfl), nd (all_get ck 5 rfl), nd (all_get ck 6 rfl), nd (all_get ck 7 rfl), nd (all_get ck 8 rfl), (PySem.W.mg_none_of X G z_list), (PySem.W.mg_none_of X G z_range), (PySem.W.mg_none_of X G z_set), (PySem.W.mg_none_of X G z_sorted), ⟨_, PySem.W.mg_of X G g1⟩⟩
  have mk : Mk K C f_sInit := ⟨(all_get ck 9 rfl), (of_decide_eq_true (all_get ck 10 rfl)), (all_get ck 11 rfl), (all_get ck 12 rfl)⟩
  have FI : FunD K "__init__" "Web.__init__" (defArgs sInit) (defBody sInit) (defScope sInit) [] [("arrows", .ref ta), ("marks", .ref tm)] f_sInit _ := ⟨⟨oc_sInit, od_sInit, .none, .ref D, dc_sInit, pm_sInit, an_sInit, cd_sInit, ct_sInit, sl_sInit, rfl, l_sInit, c_sInit, .inl ⟨rfl, rfl⟩, .inr ⟨D, rfl, fun q hq => by
    simp only [List.mem_cons, List.not_mem_nil, or_false] at hq
    rcases hq with rfl | rfl
    · exact ⟨_, da, rfl⟩
    · exact ⟨_, dm, rfl⟩⟩⟩, k_sInit⟩
  have ea : ∀ H, SqT K H ta [] := fun H => .inr ⟨_, _, _, eta, rfl, rfl, Nat.zero_le _, .nil⟩
  have em : ∀ H, SqT K H tm [] := fun H => .inr ⟨_, _, _, etm, rfl, rfl, Nat.zero_le _, .nil⟩
  have F_sPoints := fun_mk (st := sPoints) l_sPoints c_sPoints k_sPoints
  have b_sPoints := F_sPoints.binds (ps := ["self"]) fun _ _ _ _ _ _ us hl => match us, hl with | [_], _ => rfl
  have F_sArrows := fun_mk (st := sArrows) l_sArrows c_sArrows k_sArrows
  have b_sArrows := F_sArrows.binds (ps := ["self"]) fun _ _ _ _ _ _ us hl => match us, hl with | [_], _ => rfl
  have F_sMarks := fun_mk (st := sMarks) l_sMarks c_sMarks k_sMarks
  have b_sMarks := F_sMarks.binds (ps := ["self"]) fun _ _ _ _ _ _ us hl => match us, hl with | [_], _ => rfl
  have F_sWLen := fun_mk (st := sWLen) l_sWLen c_sWLen k_sWLen
  have b_sWLen := F_sWLen.binds (ps := ["self"]) fun _ _ _ _ _ _ us hl => match us, hl with | [_], _ => rfl
  have AG : AtG mg ⟨C_ba, C_bm, C_bt, C_bs, C_sz, C_pt, C_nu, C_tm⟩ := ⟨PySem.W.mg_of X G a_ba, PySem.W.mg_of X G a_bm, PySem.W.mg_of X G a_bt, PySem.W.mg_of X G a_bs, PySem.W.mg_of X G a_sz, PySem.W.mg_of X G a_pt, PySem.W.mg_of X G a_nu, PySem.W.mg_of X G a_tm⟩
  have F_sETooMany := fun_mk (st := sETooMany) l_sETooMany c_sETooMany k_sETooMany
  have b_sETooMany := F_sETooMany.binds (ps := ["self", "bound"]) fun _ _ _ _ _ _ us hl => match us, hl with | [_, _], _ => rfl
  have er_tm : ErrC K C_tm f_sETooMany "bound" := errC_of (all_get ck 21 rfl)
  have at_tm : AtC K ⟨C_ba, C_bm, C_bt, C_bs, C_sz, C_pt, C_nu, C_tm⟩ C_tm "bound" := atC2 (all_get ck 22 rfl)
  have nP : K.lookup PT = none := Option.isNone_iff_eq_none.mp (all_get ck 24 rfl)
  have hP : h.get? PT = some { cls := .none, data := .fields #[] } := own cL PT _ _ _ _ _ _ l_sLaw rfl rfl lcL v11
  refine ⟨PySem.W.fnOf "law" "law" (defArgs sLaw) (defBody sLaw) (defScope sLaw) .none kV_sLaw dc_sLaw pm_sLaw an_sLaw (.ref cL) ct_sLaw, [(cL, PT)], spLaw K PT, fun p hp => ?_, fun p hp => ?_, fun p hp => ?_, fun s v => .of_eq rfl, fun H a ns hl _ hT hS => ⟨a, ns, rfl, hS, hl, fun p hp => ?_, fun _ => rfl⟩, fun base _ _ hTB => ?_⟩
  · rw [List.mem_singleton.mp hp]
    exact hP
  · rw [List.mem_singleton.mp hp]
    exact nP
  · rw [List.mem_singleton.mp hp]
    exact PySem.W.codeHd_of_K X (all_get ck 23 rfl)
  · rw [List.mem_singleton.mp hp]
    exact LamX.TabS.nil (hT (cL, PT) (List.mem_singleton.mpr rfl))
  have TB := hTB (cL, PT) (List.mem_singleton.mpr rfl)
  have o_sRA : Df l.prog w K mg base 1 "refuse_bad_arrows" ["points", "arrows"] (spRA K) f_sRA _ := ⟨ok_ra F_sRA (PySem.W.mg_none_of X G z_list) (PySem.W.mg_none_of X G z_enumerate) (PySem.W.mg_of X G g2), PySem.W.mg_of X G a_sRA, k_sRA, b_sRA⟩
  have o_sRM : Df l.prog w K mg base 1 "refuse_bad_marks" ["points", "marks"] (spRM K) f_sRM _ := ⟨ok_rm F_sRM (PySem.W.mg_none_of X G z_list) (PySem.W.mg_none_of X G z_enumerate) (PySem.W.mg_of X G g3), PySem.W.mg_of X G a_sRM, k_sRM, b_sRM⟩
  have o_sGat : Df l.prog w K mg base 1 "gathered" ["rows"] (spGat K) f_sGat _ := ⟨ok_gat F_sGat, PySem.W.mg_of X G a_sGat, k_sGat, b_sGat⟩
  have o_sBox : Df l.prog w K mg base 1 "_law_box" ["_law_script"] (spBox K) f_sBox _ := ⟨ok_box F_sBox (PySem.W.mg_none_of X G z_len) (PySem.W.mg_none_of X G z_list), PySem.W.mg_of X G a_sBox, k_sBox, b_sBox⟩
  have o_sTake : Df l.prog w K mg base 1 "_law_take" ["_law_box_here", "_law_many"] spTake f_sTake _ := ⟨ok_take F_sTake (PySem.W.mg_none_of X G z_len), PySem.W.mg_of X G a_sTake, k_sTake, b_sTake⟩
  have o_sOne : Df l.prog w K mg base 2 "_law_one" ["_law_box_here", "_law_some"] (spOne K) f_sOne _ := ⟨ok_one F_sOne (PySem.W.mg_none_of X G z_len) o_sTake, PySem.W.mg_of X G a_sOne, k_sOne, b_sOne⟩
  have sm : SmT mg := ⟨(PySem.W.mg_none_of X G z_isinstance), (PySem.W.mg_none_of X G z_list), (PySem.W.mg_none_of X G z_tuple), (PySem.W.mg_none_of X G z_bool), (PySem.W.mg_none_of X G z_int), (PySem.W.mg_none_of X G z_str), (PySem.W.mg_none_of X G z_len), (PySem.W.mg_none_of X G z_all), (PySem.W.mg_none_of X G z_zip)⟩
  have o_sSame : Df l.prog w K mg base 5 "_law_same" ["_law_found", "_law_due"] (spSame K 4) f_sSame _ := ⟨ok_same F_sSame (PySem.W.mg_of X G a_sSame) b_sSame sm 4, PySem.W.mg_of X G a_sSame, k_sSame, b_sSame⟩
  have o_sUnlike : Df l.prog w K mg base 1 "_law_unlike" ["_law_some"] (spUnl K) f_sUnlike _ := ⟨ok_unl F_sUnlike (PySem.W.mg_none_of X G z_sorted), PySem.W.mg_of X G a_sUnlike, k_sUnlike, b_sUnlike⟩
  have oI : FnOk l.prog w K mg base CX0 2 f_sInit _ psI (spInit K C) := ok_init FI wt o_sRA o_sRM o_sGat
  have e_tm : EDf l.prog w K mg base "TooMany" "bound" C_tm f_sETooMany _ := ⟨ok_eTooMany F_sETooMany er_tm, er_tm, PySem.W.mg_of X G a_tm, b_sETooMany⟩
  have d_take : Df l.prog w K mg base 1 "_law_take" ["_law_box_here", "_law_many"] (Dv.spD (Dv.mkS K C (Dv.TB1 PT) (fun _ => C_tm)) Dv.takeM) f_sTake _ := Dv.Df.to o_sTake (fun _ _ _ _ h => Dv.sp_take h)
  have d_one : Df l.prog w K mg base 2 "_law_one" ["_law_box_here", "_law_some"] (Dv.spD (Dv.mkS K C (Dv.TB1 PT) (fun _ => C_tm)) Dv.oneM) f_sOne _ := Dv.Df.to o_sOne (fun _ _ _ _ h => Dv.sp_one h)
  have d_same : Df l.prog w K mg base 5 "_law_same" ["_law_found", "_law_due"] (Dv.spD (Dv.mkS K C (Dv.TB1 PT) (fun _ => C_tm)) (Dv.sameM 4)) f_sSame _ := Dv.Df.to o_sSame (fun _ _ _ _ h => Dv.sp_same h)
  have bq : Dv.Bq mg := ⟨(PySem.W.mg_none_of X G z_range), (PySem.W.mg_none_of X G z_len), (PySem.W.mg_none_of X G z_list)⟩
  have d_unl : Df l.prog w K mg base 1 "_law_unlike" ["_law_some"] (Dv.spL (Dv.mkS K C (Dv.TB1 PT) (fun _ => C_tm)) Dv.unlM) f_sUnlike _ := Dv.Df.to o_sUnlike (fun _ _ _ _ h => Dv.sp_unl h)
  have d_hue : Df l.prog w K mg base 3 "_law_hue" ["_law_box_here"] (Dv.spD (Dv.mkS K C (Dv.TB1 PT) (fun _ => C_tm)) Dv.hueM) f_sHue _ := ⟨Dv.ok_hue F_sHue d_one, PySem.W.mg_of X G a_sHue, k_sHue, b_sHue⟩
  have d_sign : Df l.prog w K mg base 3 "_law_sign" ["_law_box_here"] (Dv.spD (Dv.mkS K C (Dv.TB1 PT) (fun _ => C_tm)) Dv.signM) f_sSign _ := ⟨Dv.ok_sign F_sSign d_one, PySem.W.mg_of X G a_sSign, k_sSign, b_sSign⟩
  have d_arrow : Df l.prog w K mg base 4 "_law_arrow" ["_law_box_here", "_law_many"] (Dv.spD (Dv.mkS K C (Dv.TB1 PT) (fun _ => C_tm)) Dv.arrowM) f_sArrow _ := ⟨Dv.ok_arrow F_sArrow d_hue d_take, PySem.W.mg_of X G a_sArrow, k_sArrow, b_sArrow⟩
  have d_web : Df l.prog w K mg base 5 "_law_web" ["_law_box_here", "_law_low", "_law_high"] (Dv.spD (Dv.mkS K C (Dv.TB1 PT) (fun _ => C_tm)) Dv.webM) f_sWeb _ := ⟨Dv.ok_web F_sWeb bq d_one d_take d_arrow d_sign d_unl, PySem.W.mg_of X G a_sWeb, k_sWeb, b_sWeb⟩
  have m_sPoints : Mf l.prog w K mg base 1 C "points" (spPts C) f_sPoints _ := ⟨ok_pts F_sPoints wt (PySem.W.mg_none_of X G z_len), ⟨(of_decide_eq_true (all_get ck 13 rfl)), (all_get ck 14 rfl), k_sPoints⟩, b_sPoints⟩
  have m_sArrows : Mf l.prog w K mg base 1 C "arrows" (spArr C) f_sArrows _ := ⟨ok_arr F_sArrows wt, ⟨(of_decide_eq_true (all_get ck 15 rfl)), (all_get ck 16 rfl), k_sArrows⟩, b_sArrows⟩
  have m_sMarks : Mf l.prog w K mg base 1 C "marks" (spMrk C) f_sMarks _ := ⟨ok_mrk F_sMarks wt, ⟨(of_decide_eq_true (all_get ck 17 rfl)), (all_get ck 18 rfl), k_sMarks⟩, b_sMarks⟩
  have n_p : Mf l.prog w K mg base 1 C "points" (Dv.spD (Dv.mkS K C (Dv.TB1 PT) (fun _ => C_tm)) Dv.ptsM) f_sPoints _ := ⟨m_sPoints.ok.imp (fun _ _ _ _ h => Dv.sp_pts h), m_sPoints.mt, m_sPoints.bd⟩
  have n_a : Mf l.prog w K mg base 1 C "arrows" (Dv.spL (Dv.mkS K C (Dv.TB1 PT) (fun _ => C_tm)) Dv.arrM) f_sArrows _ := ⟨m_sArrows.ok.imp (fun _ _ _ _ h => Dv.sp_arr h), m_sArrows.mt, m_sArrows.bd⟩
  have n_m : Mf l.prog w K mg base 1 C "marks" (Dv.spL (Dv.mkS K C (Dv.TB1 PT) (fun _ => C_tm)) Dv.mrkM) f_sMarks _ := ⟨m_sMarks.ok.imp (fun _ _ _ _ h => Dv.sp_mrk h), m_sMarks.mt, m_sMarks.bd⟩
  have m_l : PySem.W.findIn K (.ref C) "__len__" = some (some (.ref f_sWLen)) ∧ PySem.W.isFn K (.ref f_sWLen) = true ∧ PySem.W.keepIn K (.ref f_sWLen) = true := ⟨(of_decide_eq_true (all_get ck 19 rfl)), (all_get ck 20 rfl), k_sWLen⟩
  have d_rmo : DfX l.prog w K mg base 3 "refuse_more_points" ["points"] (Dv.spX (Dv.mkS K C (Dv.TB1 PT) (fun _ => C_tm)) Dv.rmoM) f_sRMore _ := ⟨Dv.ok_rmo F_sRMore (PySem.W.mg_of X G g1) e_tm, PySem.W.mg_of X G a_sRMore, k_sRMore, b_sRMore⟩
  have d_bsd : DfX l.prog w K mg base 4 "beside" ["one", "other"] (Dv.spX (Dv.mkS K C (Dv.TB1 PT) (fun _ => C_tm)) Dv.bsdM) f_sbeside _ := ⟨Dv.ok_bsd F_sbeside cl n_p n_a n_m (PySem.W.mg_of X G aC) mk FI oI d_rmo, PySem.W.mg_of X G a_sbeside, k_sbeside, b_sbeside⟩
  have d_tms : DfX l.prog w K mg base 4 "times" ["one", "other"] (Dv.spX (Dv.mkS K C (Dv.TB1 PT) (fun _ => C_tm)) Dv.tmsM) f_stimes _ := ⟨Dv.ok_tms F_stimes cl n_p n_a n_m (PySem.W.mg_of X G aC) mk FI oI d_rmo, PySem.W.mg_of X G a_stimes, k_stimes, b_stimes⟩
  have d_made : Df l.prog w K mg base 4 "_law_made" ["_law_m"] (Dv.spD (Dv.mkS K C (Dv.TB1 PT) (fun _ => C_tm)) Dv.madeM) f_sMade _ := ⟨Dv.ok_made F_sMade (PySem.W.mg_of X G aC) mk FI oI, PySem.W.mg_of X G a_sMade, k_sMade, b_sMade⟩
  have d_told : Df l.prog w K mg base 3 "_law_told" ["_law_web_here"] (Dv.spD (Dv.mkS K C (Dv.TB1 PT) (fun _ => C_tm)) Dv.toldM) f_s_law_told _ := ⟨Dv.ok_told F_s_law_told cl n_p n_a n_m, PySem.W.mg_of X G a_s_law_told, k_s_law_told, b_s_law_told⟩
  have d_lbs : Df l.prog w K mg base 2 "_law_beside" ["_law_m", "_law_n"] (Dv.spD (Dv.mkS K C (Dv.TB1 PT) (fun _ => C_tm)) Dv.lbsM) f_s_law_beside _ := ⟨Dv.ok_lbs F_s_law_beside d_unl, PySem.W.mg_of X G a_s_law_beside, k_s_law_beside, b_s_law_beside⟩
  have d_lts : Df l.prog w K mg base 2 "_law_times" ["_law_m", "_law_n"] (Dv.spD (Dv.mkS K C (Dv.TB1 PT) (fun _ => C_tm)) Dv.ltsM) f_s_law_times _ := ⟨Dv.ok_lts F_s_law_times d_unl, PySem.W.mg_of X G a_s_law_times, k_s_law_times, b_s_law_times⟩
  exact Dv.ok_law (e := ⟨C_ba, C_bm, C_bt, C_bs, C_sz, C_pt, C_nu, C_tm⟩) (cls := (fun _ => C_tm)) F_sLaw bq TB F_sAt (PySem.W.mg_of X G a_sAt) b_sAt AG at_tm er_tm (PySem.W.mg_of X G aC) mk FI oI ea em (Dv.ok_wlen F_sWLen wt (PySem.W.mg_none_of X G z_len)) m_l.1 m_l.2.1 b_sWLen o_sBox d_made d_same d_web d_told d_lbs d_lts d_take d_bsd (Dv.kb_beside F_sbeside) d_tms (Dv.kb_times F_stimes)
end Wb
open PySem PySem.W PyProof.Rows
set_option maxRecDepth 100000 in
set_option maxHeartbeats 0 in
theorem PySem.Challenge.cw_wardweb_k11_beside_and_times_holds : PySem.Challenge.rw_wardweb_k11_beside_and_times.Holds := by
  w_on; o_law; k_head; (case hw => w_witness2)
  k_fill
  refine LamX.walk_ofOwn (l := PySem.Challenge.rw_wardweb_k11_beside_and_times) (n := 63) (k := 10) (x := "_law_script") (CX := fun _ => L2.CX0) rfl (by decide) rfl ⟨rfl, by decide, by decide⟩ (by decide +kernel) (fun w h Y => PySem.W.km_in_of Y) ?F (fun _ _ _ _ _ h => h)
  case F =>
    intro w mg fa h YY KX G hmg own
    refine' Wb.all_mk KX G hmg own ?a_sRA ?l_sRA ?c_sRA ?k_sRA ?a_sRM ?l_sRM ?c_sRM ?k_sRM ?a_sGat ?l_sGat ?c_sGat ?k_sGat ?a_sBox ?l_sBox ?c_sBox ?k_sBox ?a_sTake ?l_sTake ?c_sTake ?k_sTake ?a_sOne ?l_sOne ?c_sOne ?k_sOne ?a_sSame ?l_sSame ?c_sSame ?k_sSame ?a_sUnlike ?l_sUnlike ?c_sUnlike ?k_sUnlike ?a_sHue ?l_sHue ?c_sHue ?k_sHue ?a_sSign ?l_sSign ?c_sSign ?k_sSign ?a_sArrow ?l_sArrow ?c_sArrow ?k_sArrow ?a_sWeb ?l_sWeb ?c_sWeb ?k_sWeb ?a_sMade ?l_sMade ?c_sMade ?k_sMade ?a_sRMore ?l_sRMore ?c_sRMore ?k_sRMore ?a_sbeside ?l_sbeside ?c_sbeside ?k_sbeside ?a_stimes ?l_stimes ?c_stimes ?k_stimes ?a_s_law_told ?l_s_law_told ?c_s_law_told ?k_s_law_told ?a_s_law_beside ?l_s_law_beside ?c_s_law_beside ?k_s_law_beside ?a_s_law_times ?l_s_law_times ?c_s_law_times ?k_s_law_times ?a_sAt ?l_sAt ?c_sAt ?k_sAt ?a_sLaw ?l_sLaw ?c_sLaw ?k_sLaw ?lcL ?v11 ?z_len ?z_list ?z_range ?z_isinstance ?z_tuple ?z_bool ?z_int ?z_str ?z_all ?z_zip ?z_enumerate ?z_set ?z_sorted ?aC ?jI ?l_sInit ?c_sInit ?k_sInit ?da ?dm ?eta ?etm ?g1 ?g2 ?g3 ?j_sPoints ?l_sPoints ?c_sPoints ?k_sPoints ?j_sArrows ?l_sArrows ?c_sArrows ?k_sArrows ?j_sMarks ?l_sMarks ?c_sMarks ?k_sMarks ?j_sWLen ?l_sWLen ?c_sWLen ?k_sWLen ?a_ba ?a_bm ?a_bt ?a_bs ?a_sz ?a_pt ?a_nu ?a_tm ?j_tm ?l_sETooMany ?c_sETooMany ?k_sETooMany ?ck
    (case a_sRA => k_is)
    (case l_sRA => k_is)
    (case c_sRA => k_is)
    (case k_sRA => k_is)
    (case a_sRM => k_is)
    (case l_sRM => k_is)
    (case c_sRM => k_is)
    (case k_sRM => k_is)
    (case a_sGat => k_is)
    (case l_sGat => k_is)
    (case c_sGat => k_is)
    (case k_sGat => k_is)
    (case a_sBox => k_is)
    (case l_sBox => k_is)
    (case c_sBox => k_is)
    (case k_sBox => k_is)
    (case a_sTake => k_is)
    (case l_sTake => k_is)
    (case c_sTake => k_is)
    (case k_sTake => k_is)
    (case a_sOne => k_is)
    (case l_sOne => k_is)
    (case c_sOne => k_is)
    (case k_sOne => k_is)
    (case a_sSame => k_is)
    (case l_sSame => k_is)
    (case c_sSame => k_is)
    (case k_sSame => k_is)
    (case a_sUnlike => k_is)
    (case l_sUnlike => k_is)
    (case c_sUnlike => k_is)
    (case k_sUnlike => k_is)
    (case a_sHue => k_is)
    (case l_sHue => k_is)
    (case c_sHue => k_is)
    (case k_sHue => k_is)
    (case a_sSign => k_is)
    (case l_sSign => k_is)
    (case c_sSign => k_is)
    (case k_sSign => k_is)
    (case a_sArrow => k_is)
    (case l_sArrow => k_is)
    (case c_sArrow => k_is)
    (case k_sArrow => k_is)
    (case a_sWeb => k_is)
    (case l_sWeb => k_is)
    (case c_sWeb => k_is)
    (case k_sWeb => k_is)
    (case a_sMade => k_is)
    (case l_sMade => k_is)
    (case c_sMade => k_is)
    (case k_sMade => k_is)
    (case a_sRMore => k_is)
    (case l_sRMore => k_is)
    (case c_sRMore => k_is)
    (case k_sRMore => k_is)
    (case a_sbeside => k_is)
    (case l_sbeside => k_is)
    (case c_sbeside => k_is)
    (case k_sbeside => k_is)
    (case a_stimes => k_is)
    (case l_stimes => k_is)
    (case c_stimes => k_is)
    (case k_stimes => k_is)
    (case a_s_law_told => k_is)
    (case l_s_law_told => k_is)
    (case c_s_law_told => k_is)
    (case k_s_law_told => k_is)
    (case a_s_law_beside => k_is)
    (case l_s_law_beside => k_is)
    (case c_s_law_beside => k_is)
    (case k_s_law_beside => k_is)
    (case a_s_law_times => k_is)
    (case l_s_law_times => k_is)
    (case c_s_law_times => k_is)
    (case k_s_law_times => k_is)
    (case a_sAt => k_is)
    (case l_sAt => k_is)
    (case c_sAt => k_is)
    (case k_sAt => k_is)
    (case a_sLaw => k_is)
    (case l_sLaw => k_is)
    (case c_sLaw => k_is)
    (case k_sLaw => k_is)
    (case lcL => k_is)
    (case v11 => rfl)
    (case z_len => k_is)
    (case z_list => k_is)
    (case z_range => k_is)
    (case z_isinstance => k_is)
    (case z_tuple => k_is)
    (case z_bool => k_is)
    (case z_int => k_is)
    (case z_str => k_is)
    (case z_all => k_is)
    (case z_zip => k_is)
    (case z_enumerate => k_is)
    (case z_set => k_is)
    (case z_sorted => k_is)
    (case aC => k_is)
    (case jI => k_is)
    (case l_sInit => k_is)
    (case c_sInit => k_is)
    (case k_sInit => k_is)
    (case da => k_is)
    (case dm => k_is)
    (case eta => k_is)
    (case etm => k_is)
    (case g1 => k_is)
    (case g2 => k_is)
    (case g3 => k_is)
    (case j_sPoints => k_is)
    (case l_sPoints => k_is)
    (case c_sPoints => k_is)
    (case k_sPoints => k_is)
    (case j_sArrows => k_is)
    (case l_sArrows => k_is)
    (case c_sArrows => k_is)
    (case k_sArrows => k_is)
    (case j_sMarks => k_is)
    (case l_sMarks => k_is)
    (case c_sMarks => k_is)
    (case k_sMarks => k_is)
    (case j_sWLen => k_is)
    (case l_sWLen => k_is)
    (case c_sWLen => k_is)
    (case k_sWLen => k_is)
    (case a_ba => k_is)
    (case a_bm => k_is)
    (case a_bt => k_is)
    (case a_bs => k_is)
    (case a_sz => k_is)
    (case a_pt => k_is)
    (case a_nu => k_is)
    (case a_tm => k_is)
    (case j_tm => k_is)
    (case l_sETooMany => k_is)
    (case c_sETooMany => k_is)
    (case k_sETooMany => k_is)
    (case ck => kernel_rfl)
