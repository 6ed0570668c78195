import PyProof.Rows.All
import Wide.All
import OpenK.AllK
import Wide.FinOn
import HandS.ForMost
import HandS.TupSets
import KE.GoesMore
import KE.GoesEnum
import PyProof.ListStr
import HandS.SetKeys
import HandS.Conv
import PyProof.DictMoreH
import HandS.Walk
import HandS.Wide
import HandS.Codes
import HandS.Zip
import HandS.IsInst
import PySem.Challenge.RW_wardweb_k01_webs_made
import HandS.Defaults
import HandS.MakeKwOnly
set_option Elab.async false
set_option linter.all false
set_option maxRecDepth 100000
/-! Sets of tuples, their items of any kind that is carried by value (ints and texts). -/
namespace Sg
open PySem PySem.Spec PyProof.Rows L2
theorem cls_item (n : Nat) {v : Value} (h : carriedByValue v = true) : ofAClassStatement n v = pure false := by
  cases v <;> first | (cases h; done) | (cases n <;> rfl)
theorem hash_item (n : Nat) {v : Value} (h : carriedByValue v = true) : ∃ b, hashByValue n v = pure b := by
  cases v <;> first | (cases h; done) | (cases n <;> exact ⟨_, rfl⟩)
section
variable {P : Program} {w : World} {κ : Type} [DecidableEq κ] {knd : KeyKind P w κ} {A : Around} {E : Value → Shared → Prop} {s : Shared}
/-- no class statement stands behind such a tuple -/
theorem cls_tup {k : List κ} {b : Addr} {Q : Bool → Shared → Prop} (hk : IsTupleKey knd s.heap k b) (h : Q false s) : wpAny (model P w) A (ofAClassStatement 8 (.ref b)) Q E s := by
  have ty := hk.typeIs
  obtain ⟨o, its, n, ho, _, hd, hi⟩ := hk
  have bv := hi.byValue
  unfold ofAClassStatement
  refine wpAny_bind (wpAny_typeOf ty ?_)
  have e : (("tuple" : String) == "tuple") = true := by decide
  dsimp only
  simp only [e, if_true, Bool.not_true, Bool.false_eq_true, if_false]
  try refine wpAny_bind (wpAny_pure ?_)
  try simp only [Bool.not_true, Bool.false_eq_true, if_false]
  show wpAny _ _ (seqItems? (.ref b) >>= _) _ _ s
  refine wpAny_bind (wpAny_seqItems ho hd ?_)
  dsimp only
  refine wpAny_bind ?_
  show wpAny _ _ (forIn its _ _) _ _ s
  rw [← Array.forIn_toList]
  refine wpAny_forIn_list _ (fun left acc s' => acc.1 = none ∧ s' = s ∧ ∀ v ∈ left, carriedByValue v = true) _ ?_ ?_ _ _ ⟨rfl, rfl, bv⟩
  · rintro v left acc s' ⟨ha, rfl, hv⟩
    rw [cls_item 7 (hv v List.mem_cons_self)]
    refine wpAny_bind (wpAny_pure ?_)
    simp only [Bool.false_eq_true, if_false]
    exact wpAny_pure ⟨rfl, rfl, fun u hu => hv u (List.mem_cons_of_mem _ hu)⟩
  · rintro ⟨a1, a2⟩ s' ⟨ha, rfl, _⟩
    simp only at ha
    subst ha
    exact wpAny_pure h
/-- whether its hash goes by value is told, either way -/
theorem hash_tup {k : List κ} {b : Addr} {Q : Bool → Shared → Prop} (hk : IsTupleKey knd s.heap k b) (h : ∀ y, Q y s) : wpAny (model P w) A (hashByValue 8 (.ref b)) Q E s := by
  have ty := hk.typeIs
  obtain ⟨o, its, n, ho, _, hd, hi⟩ := hk
  have bv := hi.byValue
  unfold hashByValue
  refine wpAny_bind (wpAny_specialOf ty F.slot_tuple_hash.lookup ?_)
  show wpAny _ _ (seqItems? (.ref b) >>= _) _ _ s
  refine wpAny_bind (wpAny_seqItems ho hd ?_)
  refine wpAny_bind ?_
  show wpAny _ _ (forIn its _ _) _ _ s
  rw [← Array.forIn_toList]
  refine wpAny_forIn_list _ (fun left acc s' => (acc.1 = none ∨ acc.1 = some false) ∧ s' = s ∧ ∀ v ∈ left, carriedByValue v = true) _ ?_ ?_ _ _ ⟨.inl rfl, rfl, bv⟩
  · rintro v left acc s' ⟨ha, rfl, hv⟩
    obtain ⟨y, ey⟩ := hash_item 7 (hv v List.mem_cons_self)
    rw [ey]
    refine wpAny_bind (wpAny_pure ?_)
    cases y with
    | true =>
      simp only [Bool.not_true, Bool.false_eq_true, if_false]
      exact wpAny_pure ⟨.inl rfl, rfl, fun u hu => hv u (List.mem_cons_of_mem _ hu)⟩
    | false =>
      simp only [Bool.not_false, if_true]
      exact wpAny_pure (wpAny_pure (h _))
  · rintro ⟨a1, a2⟩ s' ⟨ha, rfl, _⟩
    simp only at ha
    rcases ha with rfl | rfl
    · exact wpAny_pure (h _)
    · exact wpAny_pure (h _)
/-- a look for it among such tuples shows nothing -/
theorem look_tup {k : List κ} {b : Addr} {Q : Bool → Shared → Prop} (hk : IsTupleKey knd s.heap k b) {ys : List Value} (hy : ∀ y ∈ ys, ∃ k' c, y = Value.ref c ∧ IsTupleKey knd s.heap k' c) (h : Q false s) : wpAny (model P w) A (searchCouldBeSeen (.ref b) ys) Q E s := by
  unfold searchCouldBeSeen
  refine wpAny_bind ?_
  refine wpAny_forIn_list _ (fun left acc s' => acc.1 = none ∧ s' = s ∧ ∀ y ∈ left, ∃ k' c, y = Value.ref c ∧ IsTupleKey knd s.heap k' c) _ ?_ ?_ _ _ ⟨rfl, rfl, hy⟩
  · rintro v left acc s' ⟨ha, rfl, hv⟩
    obtain ⟨k', c, rfl, hc⟩ := hv v List.mem_cons_self
    have more := fun u hu => hv u (List.mem_cons_of_mem (a := u) _ hu)
    dsimp only
    by_cases z : (b == c || (carriedByValue (.ref b) && carriedByValue (.ref c))) = true
    · exact wp_if_pos z (wpAny_pure ⟨rfl, rfl, more⟩)
    · refine wp_if_neg z (wpAny_bind (wpAny_eqIsQuiet_tuple hk ?_))
      simp only [Bool.not_true, Bool.false_eq_true, if_false]
      refine wpAny_bind (wpAny_eqIsQuiet_tuple hc ?_)
      simp only [Bool.not_true, Bool.false_eq_true, if_false]
      refine wpAny_bind (cls_tup hk ?_)
      simp only [Bool.false_eq_true, if_false]
      refine wpAny_bind (cls_tup hc ?_)
      simp only [Bool.false_eq_true, if_false]
      exact wpAny_pure ⟨rfl, rfl, more⟩
  · rintro ⟨a1, a2⟩ s' ⟨ha, rfl, _⟩
    simp only at ha
    subst ha
    exact wpAny_pure h
end
end Sg
namespace Sg
open PySem PySem.Spec PyProof.Rows L2
section
variable {P : Program} {w : World} {κ : Type} [DecidableEq κ] (knd : KeyKind P w κ)
/-- the entries of a set that holds the tuples of L -/
def ents (L : List (Addr × List κ)) : List (Int × Value) := L.map fun p => (tupleKeyHash knd p.2, Value.ref p.1)
def hashes (L : List (Addr × List κ)) : List Int := L.map fun p => tupleKeyHash knd p.2
structure Hs (h : Heap) (a : Addr) (L : List (Addr × List κ)) (es : Array (Int × Value)) (ep : Nat) (t : SetTable) : Prop where
  ob : ∃ o, h.get? a = some o ∧ o.ExactSet ∧ o.data = .set es ep t
  en : es.toList = ents knd L
  tab : TabOk t (hashes knd L)
  nd : (L.map (·.2)).Nodup
  tup : ∀ p ∈ L, IsTupleKey knd h p.2 p.1
  led : w.params.followText "set-order" = true ∨ t.led = true
  room : L.length * 5 < t.mask * 3
  few : L.length < 64
end
section
variable {P : Program} {w : World} {κ : Type} [DecidableEq κ] {knd : KeyKind P w κ} {A : Around} {E : Value → Shared → Prop} {s : Shared} {a : Addr} {L : List (Addr × List κ)} {es : Array (Int × Value)} {ep : Nat} {t : SetTable}
theorem hashes_len : (hashes knd L).length = L.length := List.length_map _
theorem size_of (h : es.toList = ents knd L) : es.size = L.length := by
  have z := congrArg List.length h
  rwa [Array.length_toList, show (ents knd L).length = L.length from List.length_map _] at z
theorem fits_of (T : TabOk t (hashes knd L)) (h : es.toList = ents knd L) (hr : L.length ≤ t.mask) : t.fits es.size = true := by
  have h1 := T.sz
  rw [hashes_len] at h1
  have h2 := size_of h
  unfold SetTable.fits SetTable.fill
  rw [T.dm, Bool.and_eq_true, beq_iff_eq, decide_eq_true_eq]
  show t.place.size = es.size ∧ t.place.size + 0 ≤ t.mask
  omega
theorem Hs.fits {h : Heap} (R : Hs knd h a L es ep t) : t.fits es.size = true := fits_of R.tab R.en (by have := R.room; omega)
theorem Hs.at {h : Heap} (R : Hs knd h a L es ep t) {i : Nat} {p : Addr × List κ} (e : L[i]? = some p) : es[i]? = some (tupleKeyHash knd p.2, Value.ref p.1) := by
  rw [← Array.getElem?_toList, R.en]
  unfold ents
  rw [List.getElem?_map, e]
  rfl
theorem Hs.ix {h : Heap} (R : Hs knd h a L es ep t) {i j : Nat} (e : t.place.toList[i]? = some j) : ∃ p, L[i]? = some p := by
  have h1 : i < t.place.toList.length := (List.getElem?_eq_some_iff.mp e).1
  have h2 := R.tab.sz
  rw [hashes_len] at h2
  rw [Array.length_toList] at h1
  exact ⟨L[i]'(by omega), List.getElem?_eq_getElem _⟩
/-- the search for a key, from the c-th place of its way on -/
theorem seek (R : Hs knd s.heap a L es ep t) {x : Addr} {k : List κ} (hx : IsTupleKey knd s.heap k x) (hu : A.units < cLine) {N : Nat} (hN : N < 10 * SetTable.turns t.mask) (hv : Int) (ehv : hv = tupleKeyHash knd k)
    (free : way t.mask hv N ∉ t.place.toList) (busy : ∀ c, c < N → way t.mask hv c ∈ t.place.toList) {Q : SetFound → Shared → Prop} (yes : k ∈ L.map (·.2) → Q (.there none) s) (no : k ∉ L.map (·.2) → Q (.free (way t.mask hv N) false) s) :
    ∀ (f c : Nat) (st : Option SetTable.Probe), st.getD (t.probeStart hv) = nth t.mask (runAt t.mask (SetTable.bits hv % (t.mask + 1)) (SetTable.bits hv)) c → c ≤ N → N - c < f →
      (∀ (i : Nat) p, L[i]? = some p → p.2 = k → ∃ c', c ≤ c' ∧ c' < N ∧ t.place.toList[i]? = some (way t.mask hv c')) → wpAny (model P w) A (setSearchFrom a (.ref x) hv true f st) Q E s
  | 0, _, _, _, _, z, _ => absurd z (Nat.not_lt_zero _)
  | f + 1, c, st, est, hc, hf, ahead => by
    obtain ⟨o, ho, hex, hd⟩ := R.ob
    rw [setSearchFrom_succ]
    refine wpAny_bind (wpAny_setState_of ho hd R.fits ?_)
    dsimp only
    refine wp_if_neg (by
      unfold SetTable.gaveWay
      rw [mask_odd R.tab.mok]
      decide) ?_
    try refine wpAny_bind (wpAny_pure ?_)
    generalize hr0 : runAt t.mask (SetTable.bits hv % (t.mask + 1)) (SetTable.bits hv) = r0 at est
    have dum : ∀ (n : Nat) (p : SetTable.Probe), p.dummy = none → (nth t.mask p n).dummy = none := by
      intro n
      induction n with
      | zero => exact fun p h => h
      | succ n ih =>
        intro p h
        refine ih (adv t.mask p) ?_
        unfold adv
        split <;> exact h
    have wy : ∀ m, way t.mask hv m = (nth t.mask r0 m).j := fun m => by rw [← hr0]
    have sh : ∀ m, nth t.mask (nth t.mask r0 c) m = nth t.mask r0 (c + m) := fun m => (nth_add t.mask c r0 m).symm
    have hj : ∀ m, (nth t.mask (nth t.mask r0 c) m).j = way t.mask hv (c + m) := fun m => by rw [sh, wy]
    have spec := go_spec t R.tab.ris R.tab.dm (fun i => (es[i]?.map (·.1)).getD 0) hv (10 * SetTable.turns t.mask) (N - c) (nth t.mask r0 c) (dum c r0 (by rw [← hr0]; rfl)) (by omega)
      (fun m hm => by rw [hj]; exact busy (c + m) (by omega)) (by rw [hj, show c + (N - c) = N by omega]; exact free)
    have ha : ∀ (i : Nat) p, L[i]? = some p → (fun i => (es[i]?.map (·.1)).getD 0) i = tupleKeyHash knd p.2 := fun i p e => by
      show (es[i]?.map (·.1)).getD 0 = _
      rw [R.at e]
      rfl
    rcases spec with ⟨m, i, hm, hi, hh, none', pr⟩ | ⟨none', pr⟩
    · have pr' : t.probe (fun i => (es[i]?.map (·.1)).getD 0) hv (st.getD (t.probeStart hv)) = some (.candidate (way t.mask hv (c + m)) i (nth t.mask r0 (c + (m + 1)))) := by
        rw [est, ← hj, ← sh]
        exact pr
      rw [pr']
      dsimp only
      rw [hj] at hi
      obtain ⟨p, hp⟩ := R.ix hi
      have hmem := List.mem_of_getElem? hp
      have go : wpAny (model P w) A (searchRest a (.ref x) hv true f es t (way t.mask hv (c + m)) i (nth t.mask r0 (c + (m + 1)))) Q E s := by
        unfold searchRest
        rw [R.at hp]
        dsimp only
        refine wpAny_bind (wpAny_holding (wpAny_eqBool_tuple hu (R.tup p hmem) hx ?_))
        refine wpAny_bind (wpAny_setState_of ho hd R.fits ?_)
        dsimp only
        by_cases hk : p.2 = k
        · exact wp_if_pos (by simp [hk]) (wpAny_pure (yes (List.mem_map.mpr ⟨p, hmem, hk⟩)))
        · refine wp_if_neg (by simp [hk]) ?_
          try refine wpAny_bind (wpAny_pure ?_)
          rw [sameMem]
          dsimp only
          have live : t.slot (way t.mask hv (c + m)) = .live i := slot_live R.tab.ris hi
          simp only [if_true, live, R.at hp]
          refine wpAny_bind (wpAny_isSame_ref_self (wpAny_bind (wpAny_pure ?_)))
          simp only [if_true]
          refine wp_if_neg (by simp [hk]) ?_
          refine seek R hx hu hN hv ehv free busy yes no f (c + (m + 1)) _ (by rw [hr0]; rfl) (by omega) (by omega) fun i0 p0 h0 hk0 => ?_
          obtain ⟨c', b1, b2, b3⟩ := ahead i0 p0 h0 hk0
          refine ⟨c', ?_, b2, b3⟩
          by_cases lt : c' < c + m
          · exact absurd ((ha i0 p0 h0).trans (by rw [hk0, ehv])) (none' (c' - c) i0 (by omega) (by rw [hj, show c + (c' - c) = c' by omega]; exact b3))
          · by_cases eq : c' = c + m
            · subst eq
              have s0 := slot_live R.tab.ris b3
              rw [live] at s0
              injection s0 with s0
              rw [← s0, hp] at h0
              exact absurd ((congrArg Prod.snd (Option.some.inj h0)).trans hk0) hk
            · omega
      by_cases hl : t.led = true
      · refine wp_if_neg (by simp [hl]) ?_
        try refine wpAny_bind (wpAny_pure ?_)
        exact go
      · refine wp_if_pos (by simp [hl]) (wpAny_bind (look_tup hx (fun y hy => ?_) ?_))
        · obtain ⟨e, he, ee⟩ := List.mem_map.mp hy
          have he1 : e ∈ es ∧ e.1 = hv := by simpa using he
          have he2 : e ∈ es.toList := by simpa using he1.1
          rw [R.en] at he2
          obtain ⟨p2, hp2, e2⟩ := List.mem_map.mp he2
          exact ⟨p2.2, p2.1, by rw [← ee, ← e2], R.tup p2 hp2⟩
        · refine wp_if_neg (by decide) ?_
          try refine wpAny_bind (wpAny_pure ?_)
          exact go
    · have pr' : t.probe (fun i => (es[i]?.map (·.1)).getD 0) hv (st.getD (t.probeStart hv)) = some (.empty (way t.mask hv N) none) := by
        rw [est, show way t.mask hv N = (nth t.mask (nth t.mask r0 c) (N - c)).j by rw [hj, show c + (N - c) = N by omega]]
        exact pr
      rw [pr']
      dsimp only
      refine wpAny_pure (no fun hin => ?_)
      obtain ⟨p0, h0, hk0⟩ := List.mem_map.mp hin
      obtain ⟨i0, hi0, e0⟩ := List.getElem_of_mem h0
      have h00 : L[i0]? = some p0 := by rw [List.getElem?_eq_getElem hi0, e0]
      obtain ⟨c', b1, b2, b3⟩ := ahead i0 p0 h00 hk0
      exact absurd ((ha i0 p0 h00).trans (by rw [hk0, ehv])) (none' (c' - c) i0 (by omega) (by rw [hj, show c + (c' - c) = c' by omega]; exact b3))
theorem seek0 (R : Hs knd s.heap a L es ep t) {x : Addr} {k : List κ} (hx : IsTupleKey knd s.heap k x) (hu : A.units < cLine) {Q : SetFound → Shared → Prop} (yes : k ∈ L.map (·.2) → Q (.there none) s)
    (no : ∀ N, k ∉ L.map (·.2) → way t.mask (tupleKeyHash knd k) N ∉ t.place.toList → (∀ c, c < N → way t.mask (tupleKeyHash knd k) c ∈ t.place.toList) → Q (.free (way t.mask (tupleKeyHash knd k) N) false) s) :
    wpAny (model P w) A (setSearch a (.ref x) (tupleKeyHash knd k) true) Q E s := by
  have hroom := R.room
  obtain ⟨N, hN, free, busy⟩ := R.tab.first (by rw [hashes_len]; omega) (tupleKeyHash knd k)
  have big : 10 * SetTable.turns t.mask ≤ 1420 := by
    unfold SetTable.turns
    rcases R.tab.mok with e | e | e <;> omega
  unfold setSearch
  refine seek R hx hu hN _ rfl free busy yes (fun hn => no N hn free busy) 100000 0 none rfl (Nat.zero_le _) (by omega) fun i p hp hk => ?_
  have hsz := R.tab.sz
  rw [hashes_len] at hsz
  have hil : i < t.place.toList.length := by
    have := (List.getElem?_eq_some_iff.mp hp).1
    rw [Array.length_toList]
    omega
  obtain ⟨c, hc, e⟩ := R.tab.before free (i := i) (by unfold hashes; rw [List.getElem?_map, hp, ← hk]; rfl) (List.getElem?_eq_getElem hil)
  exact ⟨c, Nat.zero_le _, hc, by rw [List.getElem?_eq_getElem hil, e]⟩
end
end Sg
namespace Sg
open PySem PySem.Spec PyProof.Rows L2
section
variable {P : Program} {w : World} {κ : Type} [DecidableEq κ] {knd : KeyKind P w κ} {A : Around} {E : Value → Shared → Prop} {s : Shared} {a : Addr} {L : List (Addr × List κ)} {es : Array (Int × Value)} {ep : Nat} {t : SetTable}
/-- a tuple stays, where the set at a is written -/
theorem tup_but {h h' : Heap} {k : List κ} {b : Addr} {o : Obj} (hb : IsTupleKey knd h k b) (ho : h.get? a = some o) (hd : o.data = .set es ep t) (hs : Heap.SameBut a h h') : IsTupleKey knd h' k b := by
  obtain ⟨u, its, n, hu, hc, hdu, hi⟩ := hb
  refine ⟨u, its, n, (hs.2 b fun z => ?_).trans hu, hc, hdu, hi⟩
  subst z
  cases Option.some.inj (hu.symm.trans ho)
  rw [hd] at hdu
  cases hdu
theorem tup_stay {h h' : Heap} {k : List κ} {b : Addr} (x : IsTupleKey knd h k b) (hk : ∀ c o, h.get? c = some o → h'.get? c = some o) : IsTupleKey knd h' k b := by
  obtain ⟨o, its, n, ho, r⟩ := x
  exact ⟨o, its, n, hk b o ho, r⟩
theorem tab_plain {hs : List Int} {b : Bool} (T : TabOk t hs) : TabOk { t with plain := b } hs := ⟨T.ris, T.dm, T.sz, T.mok, T.bd, T.reach⟩
theorem put_in {α : Type} (l : List α) (p : Nat) (x : α) : (l.take p ++ x :: l.drop p).Perm (x :: l) := by
  have z : (l.take p ++ x :: l.drop p).Perm (x :: (l.take p ++ l.drop p)) := List.perm_middle
  rwa [List.take_append_drop] at z
/-- rows picked by a rearrangement of their numbers are a rearrangement -/
theorem picked {α : Type} (l : List α) : ∀ ord : List Nat, ord.Perm (List.range l.length) → (ord.filterMap fun i => l[i]?).Perm l := by
  intro ord hp
  refine (hp.filterMap fun i => l[i]?).trans ?_
  have all : ∀ n, n ≤ l.length → (List.range n).filterMap (fun i => l[i]?) = l.take n := by
    intro n
    induction n with
    | zero => exact fun _ => rfl
    | succ n ih =>
      intro hn
      rw [List.range_succ, List.filterMap_append, ih (Nat.le_of_succ_le hn), List.take_add_one]
      simp [List.getElem?_eq_getElem hn]
  rw [all _ (Nat.le_refl _), List.take_length]
/-- the entries in another order are those of the rows in that order -/
theorem ents_pick (h : es.toList = ents knd L) (ord : Array Nat) (hp : ord.toList.Perm (List.range L.length)) :
    (ord.filterMap (es[·]?)).toList = ents knd (ord.toList.filterMap fun i => L[i]?) ∧ hashes knd (ord.toList.filterMap fun i => L[i]?) = ord.toList.map fun i => (es.map (·.1)).getD i 0 := by
  have key : ∀ l : List Nat, (∀ i ∈ l, i < L.length) → l.filterMap (fun i => es[i]?) = ents knd (l.filterMap fun i => L[i]?) ∧ hashes knd (l.filterMap fun i => L[i]?) = l.map fun i => (es.map (·.1)).getD i 0 := by
    intro l
    induction l with
    | nil => exact fun _ => ⟨rfl, rfl⟩
    | cons i l ih =>
      intro hl
      have hi := hl i List.mem_cons_self
      obtain ⟨e1, e2⟩ := ih fun j hj => hl j (List.mem_cons_of_mem _ hj)
      have ee : es[i]? = some (tupleKeyHash knd (L[i]).2, Value.ref (L[i]).1) := by
        rw [← Array.getElem?_toList, h]
        unfold ents
        rw [List.getElem?_map, List.getElem?_eq_getElem hi]
        rfl
      have eL : L[i]? = some L[i] := List.getElem?_eq_getElem hi
      rw [List.filterMap_cons_some ee, List.filterMap_cons_some eL]
      refine ⟨?_, ?_⟩
      · rw [e1]
        rfl
      · show tupleKeyHash knd (L[i]).2 :: hashes knd _ = _ :: _
        rw [e2]
        congr 1
        have e5 : (es.map (·.1))[i]? = some (tupleKeyHash knd (L[i]).2) := by
          rw [Array.getElem?_map, ee]
          rfl
        simp [Array.getD_eq_getD_getElem?, e5]
  obtain ⟨e1, e2⟩ := key ord.toList fun i hi => List.mem_range.mp (hp.mem_iff.mp hi)
  exact ⟨by first | (rw [Array.toList_filterMap]; exact e1) | simpa using e1, e2⟩
/-- the table laid anew, greater -/
theorem relay {o : Obj} (ho : s.heap.get? a = some o) (hex : o.ExactSet) (hd : o.data = .set es ep t) (en : es.toList = ents knd L) (T0 : TabOk t (hashes knd L)) (hr : L.length ≤ t.mask) (nd : (L.map (·.2)).Nodup) (tup : ∀ p ∈ L, IsTupleKey knd s.heap p.2 p.1)
    (ld : w.params.followText "set-order" = true ∨ t.led = true) (few : L.length < 64) {wanted M : Nat} (hw : SetTable.sizeAbove wanted - 1 = M) (hM : MaskOk M) (hw2 : SetTable.sizeAbove wanted ≤ 128) (hn : L.length * 5 < M * 3) {Q : Unit → Shared → Prop}
    (hQ : ∀ h' L' es' ep' t', Heap.SameBut a s.heap h' → Hs knd h' a L' es' ep' t' → L'.Perm L → Q () { s with heap := h' }) : wpAny (model P w) A (setRelay a wanted) Q E s := by
  have hsl := size_of en
  obtain ⟨t', ord, e, hp, T, em, el, _, ed⟩ := relaid_ok t (hs := es.map (·.1)) (wanted := wanted) hw hM (by rw [Array.size_map, hsl]; omega)
  rw [Array.size_map, hsl] at hp
  obtain ⟨r1, r2⟩ := ents_pick en ord hp
  have pm := picked L ord.toList hp
  rw [← r2] at T
  have hs2 : (ord.filterMap (es[·]?)).size = es.size := by
    rw [size_of r1, pm.length_eq, hsl]
  rw [setRelay_eq]
  refine wpAny_bind (wpAny_setState_of ho hd (fits_of T0 en hr) ?_)
  dsimp only
  refine wp_if_neg (by rw [sizeLine_eq]; omega) ?_
  try refine wpAny_bind (wpAny_pure ?_)
  rw [e]
  dsimp only
  refine wpAny_bind (wp_if_neg (by rw [hs2]; simp) ?_)
  try refine wpAny_bind (wpAny_pure ?_)
  refine wpAny_pure ?_
  dsimp only
  refine wpAny_storeSet_of ho hd ?_ (by rw [hs2, hsl, sizeLine_eq]; omega)
  have sb : Heap.SameBut a s.heap (s.heap.update a (Obj.putSet (ord.filterMap (es[·]?)) t')) := Heap.SameBut.update ..
  exact hQ _ _ _ (ep + 1) t' sb ⟨⟨_, store_at ho hd, ⟨hex.1, hex.2.1, hex.2.2⟩, rfl⟩, r1, T, (pm.map (·.2)).nodup_iff.mpr nd, fun p hpm => tup_but (tup p (pm.mem_iff.mp hpm)) ho hd sb, by rw [el]; exact ld, by rw [pm.length_eq, em]; exact hn, by rw [pm.length_eq]; exact few⟩ pm
/-- a key added -/
theorem put (R : Hs knd s.heap a L es ep t) {x : Addr} {k : List κ} (hx : IsTupleKey knd s.heap k x) (hu : A.units < cLine) (hfew : L.length + 1 < 64) {Q : Bool → Shared → Prop}
    (hQ : ∀ b h' L' es' ep' t', Heap.SameBut a s.heap h' → Hs knd h' a L' es' ep' t' → (k ∈ L.map (·.2) → L' = L) → (k ∉ L.map (·.2) → L'.Perm ((x, k) :: L)) → Q b { s with heap := h' }) : wpAny (model P w) A (setAddHashed a (.ref x) (tupleKeyHash knd k)) Q E s := by
  obtain ⟨o, ho, hex, hd⟩ := R.ob
  have hsl := size_of R.en
  have hroom := R.room
  unfold setAddHashed
  refine wpAny_holding ?_
  rw [show (100000 : Nat) = 99999 + 1 from rfl, setAddHashedIn_succ]
  refine wpAny_bind (wpAny_setState_of ho hd R.fits ?_)
  dsimp only
  refine wp_if_neg (by simp [byScan, Value.scannable]) ?_
  try refine wpAny_bind (wpAny_pure ?_)
  refine wpAny_bind (seek0 R hx hu (fun hm => ?_) fun N hm free busy => ?_)
  · exact wpAny_pure (hQ false s.heap L es ep t (Heap.SameBut.refl a s.heap) R (fun _ => rfl) fun z => absurd hm z)
  · dsimp only
    refine wpAny_bind (wpAny_setState_of ho hd R.fits ?_)
    dsimp only
    obtain ⟨q1, q2, q3, q4, q5, q6, q7, q8, q9⟩ := R.tab.put free busy
    generalize hpt : t.put (way t.mask (tupleKeyHash knd k) N) = pt at q1 q3 q4 q5 q6 q7 q8 q9 ⊢
    obtain ⟨t1, p⟩ := pt
    dsimp only at q1 q3 q4 q5 q6 q7 q8 q9 ⊢
    subst q1
    have hin : (SetTable.insertAt es (SetTable.below t.place (way t.mask (tupleKeyHash knd k) N)) (tupleKeyHash knd k, Value.ref x)).toList = ents knd (L.take (SetTable.below t.place (way t.mask (tupleKeyHash knd k) N)) ++ (x, k) :: L.drop (SetTable.below t.place (way t.mask (tupleKeyHash knd k) N))) := by
      rw [SetTable.toList_insertAt, R.en]
      unfold ents
      rw [List.map_append, List.map_cons, List.map_take, List.map_drop]
    generalize hpp : SetTable.below t.place (way t.mask (tupleKeyHash knd k) N) = p at q2 q3 hin ⊢
    have pm := put_in L p (x, k)
    have hh : (hashes knd L).take p ++ tupleKeyHash knd k :: (hashes knd L).drop p = hashes knd (L.take p ++ (x, k) :: L.drop p) := by
      unfold hashes
      rw [List.map_append, List.map_cons, List.map_take, List.map_drop]
    rw [hh] at q3
    have nd1 : ((L.take p ++ (x, k) :: L.drop p).map (·.2)).Nodup := by
      refine (pm.map (·.2)).nodup_iff.mpr ?_
      rw [List.map_cons]
      exact List.nodup_cons.mpr ⟨hm, R.nd⟩
    have hlen : (L.take p ++ (x, k) :: L.drop p).length = L.length + 1 := pm.length_eq
    generalize L.take p ++ (x, k) :: L.drop p = L1 at pm hlen q3 nd1 hin
    generalize SetTable.insertAt es p (tupleKeyHash knd k, Value.ref x) = es1 at hin ⊢
    have hes := size_of hin
    -- behind the look at its hash: the table is t1, but for its mark
    have tail : ∀ t2 : SetTable, TabOk t2 (hashes knd L1) → t2.mask = t.mask → t2.led = t.led → t2.fill = (hashes knd L).length + 1 →
        wpAny (model P w) A (do
          storeSet a es1 t2
          if !false && t2.tooFull then setRelay a (SetTable.grown (es.size + 1))
          return true) Q E s := fun t2 T2 m2 l2 f2 => by
      refine wpAny_bind (wpAny_storeSet_of ho hd ?_ (by rw [hes, hlen, sizeLine_eq]; omega))
      have sb : Heap.SameBut a s.heap (s.heap.update a (Obj.putSet es1 t2)) := Heap.SameBut.update ..
      have ho1 := store_at (es' := es1) (t' := t2) ho hd
      generalize s.heap.update a (Obj.putSet es1 t2) = h1 at sb ho1 ⊢
      have tup1 : ∀ p ∈ L1, IsTupleKey knd h1 p.2 p.1 := fun p hp => by
        rcases List.mem_cons.mp (pm.mem_iff.mp hp) with e | hp
        · rw [e]
          exact tup_but hx ho hd sb
        · exact tup_but (R.tup p hp) ho hd sb
      have ld1 : w.params.followText "set-order" = true ∨ t2.led = true := by
        rw [l2]
        exact R.led
      by_cases hf : t2.tooFull = true
      · first
          | (refine wpAny_bind ?_; refine wp_if_pos (by simp [hf]) ?_)
          | (refine wp_if_pos (by simp [hf]) ?_; refine wpAny_bind ?_)
        have full : (L.length + 1) * 5 ≥ t2.mask * 3 := by
          have z := hf
          unfold SetTable.tooFull at z
          rw [decide_eq_true_eq, f2, hashes_len] at z
          exact z
        rw [hsl]
        have two : (t.mask = 7 ∧ L.length = 4) ∨ (t.mask = 31 ∧ L.length = 18) := by
          rw [m2] at full
          rcases R.tab.mok with e | e | e
          · exact .inl ⟨e, by rw [e] at full hroom; omega⟩
          · exact .inr ⟨e, by rw [e] at full hroom; omega⟩
          · rw [e] at full
            omega
        have go : ∀ M, SetTable.sizeAbove (SetTable.grown (L.length + 1)) - 1 = M → MaskOk M → SetTable.sizeAbove (SetTable.grown (L.length + 1)) ≤ 128 → (L.length + 1) * 5 < M * 3 →
            wpAny (model P w) A (setRelay a (SetTable.grown (L.length + 1))) (fun _ s' => wpAny (model P w) A (pure true) Q E s') E { s with heap := h1 } := fun M g1 g2 g3 g4 =>
          relay (s := { s with heap := h1 }) ho1 ⟨hex.1, hex.2.1, hex.2.2⟩ rfl hin T2 (by rw [hlen, m2]; rcases two with ⟨e, e2⟩ | ⟨e, e2⟩ <;> omega) nd1 tup1 ld1 (by rw [hlen]; exact hfew) g1 g2 g3 (by rw [hlen]; exact g4)
            fun h2 L2 es2 ep2 t2 sb2 R2 pm2 => wpAny_pure (hQ true h2 L2 es2 ep2 t2 (sb.trans sb2) R2 (fun z => absurd z hm) fun _ => pm2.trans pm)
        rcases two with ⟨_, e2⟩ | ⟨_, e2⟩
        · exact go 31 (by rw [e2, size_20]) (.inr (.inl rfl)) (by rw [e2, size_20]; decide) (by omega)
        · exact go 127 (by rw [e2, size_76]) (.inr (.inr rfl)) (by rw [e2, size_76]; decide) (by omega)
      · first
          | refine wp_if_neg (by simp [hf]) ?_
          | (refine wpAny_bind ?_; refine wp_if_neg (by simp [hf]) ?_; refine wpAny_pure ?_)
        refine wpAny_pure (hQ true h1 L1 es1 (ep + 1) t2 sb ⟨⟨_, ho1, ⟨hex.1, hex.2.1, hex.2.2⟩, rfl⟩, hin, T2, nd1, tup1, ld1, ?_, by rw [hlen]; exact hfew⟩ (fun z => absurd z hm) fun _ => pm)
        have z := hf
        unfold SetTable.tooFull at z
        rw [decide_eq_true_eq, f2, hashes_len] at z
        rw [hlen]
        omega
    have both : ∀ y : Bool, wpAny (model P w) A (do
        storeSet a es1 (if y = true then t1 else { t1 with plain := false })
        if !false && (if y = true then t1 else { t1 with plain := false }).tooFull then setRelay a (SetTable.grown (es.size + 1))
        return true) Q E s := fun y => by
      cases y with
      | true => exact tail t1 q3 q4 q5 q9
      | false => exact tail { t1 with plain := false } (tab_plain q3) q4 q5 q9
    by_cases hp1 : t1.plain = true
    · first
        | (refine wpAny_bind ?_; refine wp_if_pos hp1 ?_; refine hash_tup hx ?_)
        | refine wp_if_pos hp1 (wpAny_bind (hash_tup hx ?_))
      exact fun y => both y
    · first
        | (refine wpAny_bind ?_; refine wp_if_neg hp1 ?_; refine wpAny_pure ?_)
        | refine wp_if_neg hp1 (wpAny_bind (wpAny_pure ?_))
      exact both true
end
end Sg
namespace Sg
open PySem PySem.Spec PyProof.Rows L2
/-- what the first i of ks have brought -/
structure Brought {κ : Type} (ks : List (Addr × List κ)) (i : Nat) (L : List (Addr × List κ)) : Prop where
  of : ∀ p ∈ L, p ∈ ks.take i
  all : ∀ p ∈ ks.take i, p.2 ∈ L.map (·.2)
  len : L.length ≤ i
theorem Brought.again {κ : Type} {ks L : List (Addr × List κ)} {i : Nat} {x : Addr × List κ} (g : Brought ks i L) (e : ks[i]? = some x) (hm : x.2 ∈ L.map (·.2)) : Brought ks (i + 1) L := by
  have ht : ks.take (i + 1) = ks.take i ++ [x] := by
    rw [List.take_add_one, e]
    rfl
  refine ⟨fun p hp => by rw [ht]; exact List.mem_append_left _ (g.of p hp), fun p hp => ?_, Nat.le_succ_of_le g.len⟩
  rw [ht] at hp
  rcases List.mem_append.mp hp with z | z
  · exact g.all p z
  · rw [List.mem_singleton.mp z]
    exact hm
theorem Brought.more {κ : Type} {ks L L' : List (Addr × List κ)} {i : Nat} {x : Addr × List κ} (g : Brought ks i L) (e : ks[i]? = some x) (pm : L'.Perm (x :: L)) : Brought ks (i + 1) L' := by
  have ht : ks.take (i + 1) = ks.take i ++ [x] := by
    rw [List.take_add_one, e]
    rfl
  refine ⟨fun p hp => ?_, fun p hp => ?_, by rw [pm.length_eq, List.length_cons]; exact Nat.succ_le_succ g.len⟩
  · rw [ht]
    rcases List.mem_cons.mp (pm.mem_iff.mp hp) with z | z
    · rw [z]
      exact List.mem_append_right _ (List.mem_singleton.mpr rfl)
    · exact List.mem_append_left _ (g.of p z)
  · rw [(pm.map (·.2)).mem_iff, List.map_cons]
    rw [ht] at hp
    rcases List.mem_append.mp hp with z | z
    · exact List.mem_cons_of_mem _ (g.all p z)
    · rw [List.mem_singleton.mp z]
      exact List.mem_cons_self
section
variable {P : Program} {w : World} {κ : Type} [DecidableEq κ] {knd : KeyKind P w κ} {A : Around} {E : Value → Shared → Prop} {s : Shared}
abbrev nset (w : World) : Obj := { cls := .type "set", dict := none, data := .set #[] 0 (.fresh 0 0 (!w.params.followText "set-order")) }
theorem hs_new {h : Heap} {a : Addr} (ho : h.get? a = some (nset w)) : Hs knd h a [] #[] 0 (.fresh 0 0 (!w.params.followText "set-order")) where
  ob := ⟨_, ho, ⟨rfl, rfl, rfl⟩, rfl⟩
  en := rfl
  tab := ⟨List.Pairwise.nil, rfl, rfl, .inl rfl, fun x hx => (by cases hx), fun i h j hi => (by simp [hashes] at hi)⟩
  nd := List.nodup_nil
  tup := fun p hp => (by cases hp)
  led := by
    show _ ∨ (!w.params.followText "set-order") = true
    cases w.params.followText "set-order"
    · exact .inr rfl
    · exact .inl rfl
  room := show 0 * 5 < 7 * 3 by decide
  few := show 0 < 64 by decide
theorem Hs.stay {h h' : Heap} {a : Addr} {L : List (Addr × List κ)} {es : Array (Int × Value)} {ep : Nat} {t : SetTable} (R : Hs knd h a L es ep t) (ha : ∀ o, h.get? a = some o → h'.get? a = some o) (ht : ∀ p ∈ L, IsTupleKey knd h' p.2 p.1) : Hs knd h' a L es ep t := by
  obtain ⟨o, ho, r⟩ := R.ob
  exact ⟨⟨o, ha o ho, r⟩, R.en, R.tab, R.nd, ht, R.led, R.room, R.few⟩
/-- the loop that fills a set -/
theorem fill {I : Addr} {fp wr : List Addr} {G : Array GenState → Array GenState → Prop} {n : Nat} {Pv : Nat → Value → Prop} {St : Nat → Shared → Prop} {R : Result → Shared → Prop} (W : WalksS P w A.in1 I fp wr G n Pv St) (S : Addr) (hSf : S ∉ fp) (ks : List (Addr × List κ))
    (hn : n = ks.length) (hfew : ks.length < 64) (hval : ∀ i v, Pv i v → ∃ p, ks[i]? = some p ∧ v = .ref p.1) (h0 : Heap) (hk : ∀ p ∈ ks, IsTupleKey knd h0 p.2 p.1) (hS0 : h0.get? S = none) (hw0 : ∀ b ∈ wr, h0.get? b = none) (hu : A.in1.units < cLine) :
    ∀ (left i : Nat) (s : Shared), n - i = left → i ≤ n → St i s → (∀ b o, h0.get? b = some o → s.heap.get? b = some o) → (∃ L es ep t, Hs knd s.heap S L es ep t ∧ Brought ks i L) →
      (∀ s' L es ep t, Moved (S :: wr) G s s' → Hs knd s'.heap S L es ep t → Brought ks n L → (∀ b o, h0.get? b = some o → s'.heap.get? b = some o) → R (.ok (.ret .none)) s') → codeAny (model P w) A (.builtin "set.update.loop" ⟨[.ref S, .ref I], []⟩) R s := by
  have hSw : S ∉ wr := fun z => hSf (W.sub _ z)
  have wide : ∀ b ∈ wr, b ∈ S :: wr := fun b hb => List.mem_cons_of_mem _ hb
  have kept : ∀ {s s' : Shared}, Moved wr G s s' → (∀ b o, h0.get? b = some o → s.heap.get? b = some o) → ∀ b o, h0.get? b = some o → s'.heap.get? b = some o := fun hm kp b o e => hm.heap b o (fun hb => by rw [hw0 b hb] at e; cases e) (kp b o e)
  intro left
  induction left with
  | zero =>
    intro i s hl hi hst kp ⟨L, es, ep, t, hS, g⟩ hR
    obtain rfl : i = n := by omega
    refine codeAny_builtin F.entry_set_update_loop ?_
    rw [Around.under_plainId F.plain_set_update_loop _]
    show wpAny _ A.in1 (pyNext (.ref I) >>= _) _ _ s
    refine wpAny_bind (W.done s _ _ hst fun s' hm => ?_)
    show wpAny _ A.in1 (ret Value.none) _ _ s'
    have kp' := kept hm kp
    exact wpAny_pure (hR s' L es ep t (hm.mono wide) (hS.stay (fun o e => hm.heap S o hSw e) fun p hp => tup_stay (hk p (List.mem_of_mem_take (g.of p hp))) kp') g kp')
  | succ left ih =>
    intro i s hl hi hst kp ⟨L, es, ep, t, hS, g⟩ hR
    have lt : i < n := by omega
    refine codeAny_builtin F.entry_set_update_loop ?_
    rw [Around.under_plainId F.plain_set_update_loop _]
    show wpAny _ A.in1 (pyNext (.ref I) >>= _) _ _ s
    refine wpAny_bind (W.item i s _ _ lt hst fun v s' hP hst' hm => ?_)
    obtain ⟨p, hp, rfl⟩ := hval i v hP
    have kp' := kept hm kp
    have hS' : Hs knd s'.heap S L es ep t := hS.stay (fun o e => hm.heap S o hSw e) fun q hq => tup_stay (hk q (List.mem_of_mem_take (g.of q hq))) kp'
    have hx := tup_stay (hk p (List.mem_of_getElem? hp)) kp'
    show wpAny _ A.in1 (holding [Value.ref p.1] (setAdd S (.ref p.1)) >>= _) _ _ s'
    refine wpAny_bind (wpAny_holding ?_)
    unfold setAdd
    refine wpAny_holding (wpAny_bind (wpAny_pyHash_tuple hu hx ?_))
    refine put (s := { s' with toks := s'.toks + (p.2.length + 1) }) hS' hx hu (by have := g.len; omega) fun b h' L' es' ep' t' hsb hS2 c1 c2 => ?_
    have g' : Brought ks (i + 1) L' := by
      by_cases c : p.2 ∈ L.map (·.2)
      · rw [c1 c]
        exact g.again hp c
      · exact g.more hp (c2 c)
    have kp2 : ∀ b o, h0.get? b = some o → h'.get? b = some o := fun b o e => (hsb.2 b (fun z => by rw [z, hS0] at e; cases e)).trans (kp' b o e)
    refine wpAny_pure ⟨plainId_quiet F.plain_set_update_loop _, ih (i + 1) _ (by omega) lt (W.frame _ s' _ _ hst' (Nat.le_add_right _ _) fun b hb o e => ?_) kp2 ⟨L', es', ep', t', hS2, g'⟩ fun s2 L2 es2 ep2 t2 hm2 hS3 g3 kp3 => ?_⟩
    · rw [hsb.2 b (fun z : b = S => hSf (by rw [← z]; exact hb))]
      exact e
    · refine hR s2 L2 es2 ep2 t2 (Moved.trans W.gtrans ((hm.mono wide).then_heap (Nat.le_add_right _ _) fun b o hb e => ?_) hm2) hS3 g3 kp3
      rw [hsb.2 b (fun z : b = S => hb (by rw [z]; exact List.mem_cons_self))]
      exact e
set_option maxHeartbeats 3200000 in
/-- set(xs), xs a list of such tuples -/
theorem set_of_list {l : Addr} {items : Array Value} (ks : List (Addr × List κ)) {Q : Value → Shared → Prop} (hh : A.handled = none) (hl : s.heap.IsList l items) (hit : items.toList = ks.map fun p => Value.ref p.1) (hk : ∀ p ∈ ks, IsTupleKey knd s.heap p.2 p.1) (hfew : ks.length < 64) (hu : A.units + 3 < cLine)
    (h : ∀ (h' : Heap) (tk : Nat) L es ep t, Hs knd h' s.heap.objs.size L es ep t → Brought ks ks.length L → (∀ b o, s.heap.get? b = some o → h'.get? b = some o) → Q (.ref s.heap.objs.size) { s with heap := h', toks := tk }) : wpAny (model P w) A (call (.type "set") [.ref l]) Q E s := by
  have isz : items.size = ks.length := by
    have z := congrArg List.length hit
    rwa [Array.length_toList, List.length_map] at z
  obtain ⟨c, tl, hmro⟩ := F.called_set.mro
  have m1 := F.called_set.made
  have m2 := F.called_set.sub
  refine wpAny_call (codeAny_of_tree ?_)
  show wpAny _ _ (callAny (.type "set") _) _ _ _
  refine wpAny_pure ⟨Code.quiet_builtin _ (by decide +kernel), codeAny_builtin F.entry_type_call ?_⟩
  rw [Around.under_plain (weight_type_call_type "set" [.ref l] []) rfl]
  have m3 := F.called_set.notType
  have m4 := F.called_set.canCreate
  have m5 := F.typeCall_set_1 (.ref l)
  repeat (any_goals (first
    | assumption
    | wp_step))
  refine codeAny_mono (code_set_led1 (.ref l) (E := E) (Q₁ := fun ob s₁ => ob = .ref s.heap.objs.size ∧ s₁ = { s with heap := s.heap.push (nset w) }) ⟨rfl, rfl⟩) fun r s₁ hr => ?_
  cases r with
  | error e => exact hr
  | ok fl =>
    cases fl with
    | ret ob =>
      obtain ⟨rfl, rfl⟩ := hr
      have hS : (s.heap.push (nset w)).get? s.heap.objs.size = some (nset w) := Heap.get?_push_size _ rfl
      have hT : Shared.TypeIs { s with heap := s.heap.push (nset w) } (.ref s.heap.objs.size) "set" := ⟨_, hS, rfl⟩
      have i1 := F.called_set.init.lookup
      have i2 := F.called_set.init.bind (.ref s.heap.objs.size)
      repeat (any_goals (first
        | assumption
        | wp_step))
      refine codeAny_mono (codeAny_call_builtin (R := wants (fun r s₂ => r = .none ∧ ∃ h' tk L es ep t, s₂ = { s with heap := h', toks := tk } ∧ Hs knd h' s.heap.objs.size L es ep t ∧ Brought ks ks.length L ∧ ∀ b o, s.heap.get? b = some o → h'.get? b = some o) E) F.called_set.init.plain F.entry_set_init (check_set_init_1 hT ?_)) fun r₂ s₂ hr₂ => ?_
      · obtain ⟨⟨oc, od, oda, osl⟩, hol, hcl, nl, hdl⟩ := hl
        simp only at hcl hdl
        subst hcl hdl
        have hol1 := Heap.get?_push_of_some (nset w) hol
        have b1 := F.sub_list_set
        have b2 := F.sub_list_frozenset
        have b3 : (Value.type "list" == Value.type "dict") = false := by decide
        have hl1 : (s.heap.push (nset w)).IsList l items := ⟨_, hol1, rfl, nl, rfl⟩
        unfold Builtin.«set.__init__» noKeywords Builtin.Frozenset.updateFrom
        generalize hPI : pyIter = PI
        wp_walk
        subst hPI
        refine wpAny_pyIter_list hl1 (wpAny_bind (wpAny_runValue ?_))
        have ls : l < s.heap.objs.size := Heap.lt_size hol
        have h3 : A.in1.in1.in1.handled = none := by simp [hh]
        have sz : (s.heap.push (nset w)).objs.size = s.heap.objs.size + 1 := Heap.size_push ..
        have ne : l ≠ (s.heap.push (nset w)).objs.size := by
          rw [sz]
          exact Nat.ne_of_lt (Nat.lt_succ_of_lt ls)
        have out : ∀ b, s.heap.objs.size ≤ b → s.heap.get? b = none := fun b hb => by
          cases q : s.heap.get? b with
          | none => rfl
          | some o => exact absurd (Nat.lt_of_lt_of_le (Heap.lt_size q) hb) (Nat.lt_irrefl _)
        refine fill ((Walks.list h3 _ l ne items).toS) s.heap.objs.size ?_ ks isz hfew (fun i v hv => ?_) s.heap hk (out _ (Nat.le_refl _)) (fun b hb => out b (by rw [List.mem_singleton.mp hb, sz]; exact Nat.le_succ _)) hu (items.size - 0) 0 _ (by omega) (Nat.zero_le _)
          ⟨⟨_, Heap.get?_push_size _ rfl, rfl, rfl⟩, hl1.push _⟩ (fun b o e => Heap.get?_push_of_some _ (Heap.get?_push_of_some _ e)) ⟨[], #[], 0, _, hs_new (Heap.get?_push_of_some _ hS), ⟨(fun p z => nomatch z), (fun p z => (by simp at z)), Nat.le_refl _⟩⟩ ?_
        · rw [sz]
          simp only [List.mem_cons, List.not_mem_nil, or_false, not_or]
          exact ⟨Nat.ne_of_lt (Nat.lt_succ_self _), Nat.ne_of_gt ls⟩
        · have q : items.toList[i]? = some v := by
            rw [Array.getElem?_toList]
            exact hv
          rw [hit, List.getElem?_map] at q
          cases hq : ks[i]? with
          | none =>
            rw [hq] at q
            cases q
          | some p =>
            rw [hq] at q
            exact ⟨p, rfl, (Option.some.inj q).symm⟩
        · intro s' L es ep t hm hS' g' kp
          obtain ⟨h', g2, d', tk', os'⟩ := s'
          obtain rfl : g2 = s.gens := hm.gens
          obtain rfl : d' = s.drawn := hm.drawn
          obtain rfl : os' = s.os := hm.os
          show wpAny _ _ _ _ _ _
          refine wpAny_pure ?_
          show wpAny _ _ (ret Value.none) _ _ _
          rw [isz] at g'
          exact wpAny_pure ⟨rfl, h', tk', L, es, ep, t, rfl, hS', g', kp⟩
      · cases r₂ with
        | error e => exact hr₂
        | ok fl₂ =>
          cases fl₂ with
          | ret r =>
            obtain ⟨rfl, h', tk, L, es, ep, t, rfl, hS', g', kp⟩ := hr₂
            repeat (any_goals (first
              | assumption
              | wp_step))
            exact h _ _ _ _ _ _ hS' g' kp
          | _ => exact hr₂.elim
    | _ => exact hr.elim
set_option maxHeartbeats 3200000 in
/-- set(xs), xs a tuple of such tuples -/
theorem set_of_tuple {l : Addr} {items : Array Value} (ks : List (Addr × List κ)) {Q : Value → Shared → Prop} (hh : A.handled = none) (hl : s.heap.IsTuple l items) (hit : items.toList = ks.map fun p => Value.ref p.1) (hk : ∀ p ∈ ks, IsTupleKey knd s.heap p.2 p.1) (hfew : ks.length < 64) (hu : A.units + 3 < cLine)
    (h : ∀ (h' : Heap) (tk : Nat) L es ep t, Hs knd h' s.heap.objs.size L es ep t → Brought ks ks.length L → (∀ b o, s.heap.get? b = some o → h'.get? b = some o) → Q (.ref s.heap.objs.size) { s with heap := h', toks := tk }) : wpAny (model P w) A (call (.type "set") [.ref l]) Q E s := by
  have isz : items.size = ks.length := by
    have z := congrArg List.length hit
    rwa [Array.length_toList, List.length_map] at z
  obtain ⟨c, tl, hmro⟩ := F.called_set.mro
  have m1 := F.called_set.made
  have m2 := F.called_set.sub
  refine wpAny_call (codeAny_of_tree ?_)
  show wpAny _ _ (callAny (.type "set") _) _ _ _
  refine wpAny_pure ⟨Code.quiet_builtin _ (by decide +kernel), codeAny_builtin F.entry_type_call ?_⟩
  rw [Around.under_plain (weight_type_call_type "set" [.ref l] []) rfl]
  have m3 := F.called_set.notType
  have m4 := F.called_set.canCreate
  have m5 := F.typeCall_set_1 (.ref l)
  repeat (any_goals (first
    | assumption
    | wp_step))
  refine codeAny_mono (code_set_led1 (.ref l) (E := E) (Q₁ := fun ob s₁ => ob = .ref s.heap.objs.size ∧ s₁ = { s with heap := s.heap.push (nset w) }) ⟨rfl, rfl⟩) fun r s₁ hr => ?_
  cases r with
  | error e => exact hr
  | ok fl =>
    cases fl with
    | ret ob =>
      obtain ⟨rfl, rfl⟩ := hr
      have hS : (s.heap.push (nset w)).get? s.heap.objs.size = some (nset w) := Heap.get?_push_size _ rfl
      have hT : Shared.TypeIs { s with heap := s.heap.push (nset w) } (.ref s.heap.objs.size) "set" := ⟨_, hS, rfl⟩
      have i1 := F.called_set.init.lookup
      have i2 := F.called_set.init.bind (.ref s.heap.objs.size)
      repeat (any_goals (first
        | assumption
        | wp_step))
      refine codeAny_mono (codeAny_call_builtin (R := wants (fun r s₂ => r = .none ∧ ∃ h' tk L es ep t, s₂ = { s with heap := h', toks := tk } ∧ Hs knd h' s.heap.objs.size L es ep t ∧ Brought ks ks.length L ∧ ∀ b o, s.heap.get? b = some o → h'.get? b = some o) E) F.called_set.init.plain F.entry_set_init (check_set_init_1 hT ?_)) fun r₂ s₂ hr₂ => ?_
      · obtain ⟨⟨oc, od, oda, osl⟩, hol, hcl, nl, hdl⟩ := hl
        simp only at hcl hdl
        subst hcl hdl
        have hol1 := Heap.get?_push_of_some (nset w) hol
        have b1 := F.sub_tuple_set
        have b2 := F.sub_tuple_frozenset
        have b3 : (Value.type "tuple" == Value.type "dict") = false := by decide
        have hl1 : (s.heap.push (nset w)).IsTuple l items := ⟨_, hol1, rfl, nl, rfl⟩
        unfold Builtin.«set.__init__» noKeywords Builtin.Frozenset.updateFrom
        generalize hPI : pyIter = PI
        wp_walk
        subst hPI
        refine wpAny_pyIter_tuple hl1 (wpAny_bind (wpAny_runValue ?_))
        have ls : l < s.heap.objs.size := Heap.lt_size hol
        have h3 : A.in1.in1.in1.handled = none := by simp [hh]
        have sz : (s.heap.push (nset w)).objs.size = s.heap.objs.size + 1 := Heap.size_push ..
        have ne : l ≠ (s.heap.push (nset w)).objs.size := by
          rw [sz]
          exact Nat.ne_of_lt (Nat.lt_succ_of_lt ls)
        have out : ∀ b, s.heap.objs.size ≤ b → s.heap.get? b = none := fun b hb => by
          cases q : s.heap.get? b with
          | none => rfl
          | some o => exact absurd (Nat.lt_of_lt_of_le (Heap.lt_size q) hb) (Nat.lt_irrefl _)
        refine fill ((Walks.tuple h3 _ l ne items).toS) s.heap.objs.size ?_ ks isz hfew (fun i v hv => ?_) s.heap hk (out _ (Nat.le_refl _)) (fun b hb => out b (by rw [List.mem_singleton.mp hb, sz]; exact Nat.le_succ _)) hu (items.size - 0) 0 _ (by omega) (Nat.zero_le _)
          ⟨⟨_, Heap.get?_push_size _ rfl, rfl, rfl⟩, hl1.push _⟩ (fun b o e => Heap.get?_push_of_some _ (Heap.get?_push_of_some _ e)) ⟨[], #[], 0, _, hs_new (Heap.get?_push_of_some _ hS), ⟨(fun p z => nomatch z), (fun p z => (by simp at z)), Nat.le_refl _⟩⟩ ?_
        · rw [sz]
          simp only [List.mem_cons, List.not_mem_nil, or_false, not_or]
          exact ⟨Nat.ne_of_lt (Nat.lt_succ_self _), Nat.ne_of_gt ls⟩
        · have q : items.toList[i]? = some v := by
            rw [Array.getElem?_toList]
            exact hv
          rw [hit, List.getElem?_map] at q
          cases hq : ks[i]? with
          | none =>
            rw [hq] at q
            cases q
          | some p =>
            rw [hq] at q
            exact ⟨p, rfl, (Option.some.inj q).symm⟩
        · intro s' L es ep t hm hS' g' kp
          obtain ⟨h', g2, d', tk', os'⟩ := s'
          obtain rfl : g2 = s.gens := hm.gens
          obtain rfl : d' = s.drawn := hm.drawn
          obtain rfl : os' = s.os := hm.os
          show wpAny _ _ _ _ _ _
          refine wpAny_pure ?_
          show wpAny _ _ (ret Value.none) _ _ _
          rw [isz] at g'
          exact wpAny_pure ⟨rfl, h', tk', L, es, ep, t, rfl, hS', g', kp⟩
      · cases r₂ with
        | error e => exact hr₂
        | ok fl₂ =>
          cases fl₂ with
          | ret r =>
            obtain ⟨rfl, h', tk, L, es, ep, t, rfl, hS', g', kp⟩ := hr₂
            repeat (any_goals (first
              | assumption
              | wp_step))
            exact h _ _ _ _ _ _ hS' g' kp
          | _ => exact hr₂.elim
    | _ => exact hr.elim
end
end Sg
/-! Sorting ties: tuples of a sign and numbers. -/
namespace Sg
open PySem PySem.Spec PyProof.Rows L2
def numV : Value → Int
  | .int i _ => i
  | .str z _ => ((z.cps.toList.headD 0 : Nat) : Int)
  | _ => 0
def numK : Key → Int
  | .inl i => i
  | .inr z => ((z.cps.toList.headD 0 : Nat) : Int)
/-- the numbers by which a tuple is ordered, read off the heap -/
def numsOf (h : Heap) : Value → List Int
  | .ref a => match h.get? a with
    | some o => match o.data with
      | .seq xs _ => xs.toList.map numV
      | _ => []
    | none => []
  | _ => []
/-- a sign, then numbers; all below B -/
def TieK (B : Int) (d : Nat) (k : List Key) : Prop := ∃ (c : Nat) (ns : List Int), k = .inr ⟨#[c]⟩ :: ns.map Sum.inl ∧ ns.length + 1 = d ∧ TS.Bd B ((c : Int) :: ns)
theorem TieK.len {B : Int} {d : Nat} {k : List Key} (t : TieK B d k) : k.length = d := by
  obtain ⟨c, ns, rfl, l, _⟩ := t
  rw [List.length_cons, List.length_map, l]
section
variable {P : Program} {w : World} {A : Around} {E : Value → Shared → Prop} {s : Shared}
theorem is_shape {k : Key} {v : Value} (h : (mixKind P w).is k v = true) : (∃ i t, k = Sum.inl i ∧ v = Value.int i t) ∨ (∃ x t, k = Sum.inr x ∧ v = Value.str x t) := keyIs_shape (k := k) (v := v) h
theorem nums_items {k : List Key} {vs : List Value} (h : ItemsAre (mixKind P w) k vs) : vs.map numV = k.map numK := by
  induction h with
  | nil => rfl
  | @cons k0 v ks vs h1 _ ih =>
    rw [List.map_cons, List.map_cons, ih]
    rcases is_shape h1 with ⟨i, t, rfl, rfl⟩ | ⟨x, t, rfl, rfl⟩ <;> rfl
theorem nums_at {h : Heap} {k : List Key} {a : Addr} (x : IsTupleKey (mixKind P w) h k a) : numsOf h (.ref a) = k.map numK := by
  obtain ⟨o, its, n, ho, hc, hd, hi⟩ := x
  simp only [numsOf, ho, hd]
  exact nums_items hi
theorem ints_items : ∀ {ns : List Int} {vs : List Value}, ItemsAre (mixKind P w) (ns.map Sum.inl) vs → IntsAre vs ns
  | [], _, .nil => .nil
  | n :: ns, _, .cons h1 t => by
    rcases is_shape h1 with ⟨i, tk, e, rfl⟩ | ⟨x, tk, e, rfl⟩
    · cases e
      exact .cons n tk (ints_items t)
    · cases e
theorem nums_inl (ns : List Int) : (ns.map (Sum.inl : Int → Key)).map numK = ns := by
  rw [List.map_map]
  exact List.map_id' ns
theorem lt_one (c e : Nat) : decide (([c] : List Nat) < [e]) = decide ((c : Int) < (e : Int)) := by
  refine decide_eq_decide.mpr ⟨fun h => ?_, fun h => ?_⟩
  · cases h with
    | rel h => exact Int.ofNat_lt.mpr h
    | cons h => cases h
  · exact List.Lex.rel (Int.ofNat_lt.mp h)
/-- two ties: the sign first, then the numbers -/
theorem lex_tie {B : Int} {d : Nat} {k k' : List Key} {xs ys : List Value} {Q : Bool → Shared → Prop} (hx : ItemsAre (mixKind P w) k xs) (hy : ItemsAre (mixKind P w) k' ys) (t1 : TieK B d k) (t2 : TieK B d k') (h : Q (decide (TS.code B (k.map numK) < TS.code B (k'.map numK))) s) :
    PySem.W.KatLex P w A true false Q (xs.zip ys) 0 s := by
  obtain ⟨c, ns, rfl, l1, b1⟩ := t1
  obtain ⟨e, ms, rfl, l2, b2⟩ := t2
  cases hx with
  | cons h1 hx =>
    cases hy with
    | cons h2 hy =>
      rcases is_shape h1 with ⟨i, tk, z, _⟩ | ⟨x, tk, z, rfl⟩
      · cases z
      · cases z
        rcases is_shape h2 with ⟨i, tk2, z, _⟩ | ⟨x, tk2, z, rfl⟩
        · cases z
        · cases z
          rw [List.map_cons, List.map_cons, nums_inl, nums_inl] at h
          have h' : Q (decide (TS.code B ((c : Int) :: ns) < TS.code B ((e : Int) :: ms))) s := h
          show PySem.W.KatLex P w A true false Q ((Value.str ⟨#[c]⟩ tk, Value.str ⟨#[e]⟩ tk2) :: _) 0 s
          refine PySem.W.kat_cons (wpAny_eqBool_str ?_)
          have hl : ns.length = ms.length := by omega
          by_cases q : c = e
          · subst q
            rw [decide_eq_true rfl]
            refine PySem.W.kat_yes (TS.lex_ints 1 (ints_items hx) (ints_items hy) hl b1.tail b2.tail ?_)
            rw [← decide_eq_decide.mpr (TS.code_same (B := B) (d := (c : Int)) hl)]
            exact h'
          · rw [decide_eq_false (show ¬ (⟨#[c]⟩ : Str) = ⟨#[e]⟩ from fun z => q (by injection z with z; injection z with z; injection z))]
            refine PySem.W.kat_no (oneLt_str ?_)
            have dd : decide (TS.code B ((c : Int) :: ns) < TS.code B ((e : Int) :: ms)) = decide ((c : Int) < (e : Int)) := by
              refine decide_eq_decide.mpr ⟨fun z => ?_, fun z => TS.code_lt hl b1.tail b2.tail z⟩
              rcases Int.lt_trichotomy (c : Int) (e : Int) with y | y | y
              · exact y
              · exact absurd (Int.ofNat.inj y) q
              · have := TS.code_lt hl.symm b2.tail b1.tail y
                omega
            rw [dd, ← lt_one] at h'
            exact h'
/-- the values at hand are ties -/
def Ties (P : Program) (w : World) (h : Heap) (B : Int) (d : Nat) (vs : List Value) : Prop := ∀ v ∈ vs, ∃ a k, v = Value.ref a ∧ IsTupleKey (mixKind P w) h k a ∧ TieK B d k
theorem ties_firsts {h : Heap} {B : Int} {d : Nat} : ∀ vs : List Value, Ties P w h B d vs → ∃ fs, PySem.W.KatTups h vs fs ∧ fs.length = vs.length ∧ ∀ f, f ∈ fs → ∃ z t, f = Value.str z t
  | [], _ => ⟨[], PySem.W.KatTups.nil, rfl, fun f hf => by simp at hf⟩
  | v :: vs, x => by
    obtain ⟨fs, k1, l1, i1⟩ := ties_firsts vs fun u hu => x u (List.mem_cons_of_mem _ hu)
    obtain ⟨a, k, rfl, ⟨o, its, n, ho, hc, hd, hi⟩, c, ns, rfl, _⟩ := x v List.mem_cons_self
    cases q : its.toList with
    | nil =>
      rw [q] at hi
      cases hi
    | cons y ys =>
      rw [q] at hi
      cases hi with
      | cons h1 _ =>
        rcases is_shape h1 with ⟨i, tk, z, _⟩ | ⟨z, tk, _, rfl⟩
        · cases z
        · refine ⟨_ :: fs, PySem.W.KatTups.cons ho hc hd (f := .str z tk) (by rw [← Array.getElem?_toList, q]; rfl) k1, by rw [List.length_cons, List.length_cons, l1], fun f hf => ?_⟩
          rcases List.mem_cons.mp hf with e | hf
          · exact ⟨z, tk, e⟩
          · exact i1 f hf
theorem Ties.keep {h h' : Heap} {B : Int} {d : Nat} {vs : List Value} (x : Ties P w h B d vs) (k : ∀ b o, h.get? b = some o → o.cls = .type "tuple" → h'.get? b = some o) : Ties P w h' B d vs := fun v hv => by
  obtain ⟨a, q, e, ⟨o, its, n, ho, hc, r⟩, t⟩ := x v hv
  exact ⟨a, q, e, ⟨o, its, n, k _ _ ho hc, hc, r⟩, t⟩
theorem kind_ties {B : Int} {d : Nat} {vs : List Value} (h2 : 2 ≤ vs.length) (x : Ties P w s.heap B d vs) (r : Value → Int) (hr : ∀ v ∈ vs, r v = TS.code B (numsOf s.heap v)) (Q : SortKind → Shared → Prop) (h : ∀ κ, TS.Cmp P w A s κ (pairsOf vs) r → Q κ s) :
    wpAny (model P w) A (keyKind' vs.toArray) Q E s := by
  obtain ⟨fs, kt, hl, hi⟩ := ties_firsts vs x
  refine PySem.W.kat_kind (T := Value.type "str") kt (by omega) (fun f hf => ?_) rfl (h _ ?_)
  · obtain ⟨z, t, rfl⟩ := hi f hf
    exact PySem.W.Looks.of_pure rfl
  · intro p q hp hq Q' E' hQ
    rw [pairsOf_toList] at hp hq
    have m1 := (mem_zip_self hp).2
    have m2 := (mem_zip_self hq).2
    have e1 := hr _ m1
    have e2 := hr _ m2
    obtain ⟨a, k, ea, xa, ta⟩ := x _ m1
    obtain ⟨b, k', eb, xb, tb⟩ := x _ m2
    rw [ea, nums_at xa] at e1
    rw [eb, nums_at xb] at e2
    rw [ea, eb] at hQ ⊢
    rw [e1, e2] at hQ
    obtain ⟨o, its, n, ho, hc, hd, hia⟩ := xa
    obtain ⟨o', its', n', ho', hc', hd', hib⟩ := xb
    refine PySem.W.kat_lt ho hd ho' hd' ?_
    have sz : decide (its.size < its'.size) = false := by
      have l1 := hia.length
      have l2 := hib.length
      have z1 : its.toList.length = its.size := by simp
      have z2 : its'.toList.length = its'.size := by simp
      have q1 := ta.len
      have q2 := tb.len
      exact decide_eq_false (by omega)
    rw [sz]
    exact lex_tie hia hib ta tb hQ
/-- list.sort of ties -/
theorem sort_ties {a : Addr} {vs : List Value} {n d : Nat} {B : Int} {Q : PySem.Fin → Shared → Prop} (ho : s.heap.get? a = some (seqObj "list" vs.toArray n)) (h64 : vs.length < 64) (x : Ties P w s.heap B d vs) (r : Value → Int) (hr : ∀ v ∈ vs, r v = TS.code B (numsOf s.heap v))
    (h : ∀ out : Array Value, out.toList.Perm vs → out.toList.Pairwise (fun u v => r u ≤ r v) → Q (.done (.ret .none)) { s with heap := sortedHeap s.heap a vs out }) : wpAny (model P w) A (Builtin.«list.sort» ⟨[.ref a], []⟩) Q E s := by
  have keep : ∀ b o, s.heap.get? b = some o → o.cls = .type "tuple" → (TS.midHeap s.heap a vs).get? b = some o := fun b o e hc => by
    refine TS.midHeap_old (fun z => ?_) e
    subst z
    rw [ho] at e
    cases e
    have c' : Value.type "list" = Value.type "tuple" := hc
    injection c' with c'
    exact absurd c' (by decide)
  refine SK.plain_sort (r := r) ho h64 (fun h2 Q' hQ => ?_) fun ps out h1 h2 h3 => ?_
  · refine kind_ties (s := { s with heap := TS.midHeap s.heap a vs }) h2 (x.keep keep) r (fun v hv => ?_) Q' hQ
    obtain ⟨b, k, rfl, xb, _⟩ := x v hv
    rw [hr _ hv, nums_at xb]
    obtain ⟨o, its, m, hb, hc, hd, hi⟩ := xb
    rw [nums_at (P := P) (w := w) (k := k) ⟨o, its, m, keep _ _ hb hc, hc, hd, hi⟩]
  · obtain ⟨p, q⟩ := TS.out_rank h1 h2 h3
    exact h out p q
end
end Sg
namespace Sg
open PySem PySem.Spec PyProof.Rows L2
abbrev TK := Addr × List Key
abbrev ordOf (B : Int) (p : TK) : Int := TS.code B (p.2.map numK)
abbrev refs (ks : List TK) : List V := ks.map fun p => V.ref p.1
abbrev refsV (ks : List TK) : List Value := ks.map fun p => Value.ref p.1
section
variable {P : Program} {w : World} {A : Around} {E : Value → Shared → Prop} {s : Shared}
/-- values that are a rearrangement of references are the references of a rearrangement -/
theorem pick_perm : ∀ {vs : List Value} {ks : List TK}, vs.Perm (refsV ks) → ∃ ks' : List TK, vs = refsV ks' ∧ ks'.Perm ks := by
  intro vs ks h
  generalize e : refsV ks = us at h
  induction h generalizing ks with
  | nil =>
    cases ks with
    | nil => exact ⟨[], rfl, .nil⟩
    | cons _ _ => cases e
  | @cons x l1 l2 h ih =>
    cases ks with
    | nil => cases e
    | cons p r =>
      obtain ⟨e1, e2⟩ := List.cons.inj e
      obtain ⟨k', e3, pm⟩ := ih e2
      exact ⟨p :: k', by rw [e3, ← e1]; rfl, .cons p pm⟩
  | swap x y l =>
    cases ks with
    | nil => cases e
    | cons p r =>
      cases r with
      | nil => cases (List.cons.inj e).2
      | cons q r =>
        obtain ⟨e1, e2⟩ := List.cons.inj e
        obtain ⟨e3, e4⟩ := List.cons.inj e2
        exact ⟨q :: p :: r, by rw [← e1, ← e3, ← e4]; rfl, .swap p q r⟩
  | trans h1 h2 ih1 ih2 =>
    obtain ⟨k2, e2, p2⟩ := ih2 e
    obtain ⟨k1, e1, p1⟩ := ih1 e2.symm
    exact ⟨k1, e1, p1.trans p2⟩
theorem ties_of {h : Heap} {B : Int} {d : Nat} {ks : List TK} (hk : ∀ p ∈ ks, IsTupleKey (mixKind P w) h p.2 p.1) (ht : ∀ p ∈ ks, TieK B d p.2) : Ties P w h B d (refsV ks) := fun v hv => by
  obtain ⟨p, hp, rfl⟩ := List.mem_map.mp hv
  exact ⟨p.1, p.2, rfl, hk p hp, ht p hp⟩
/-- a list just laid, sorted -/
theorem sort_new {ks : List TK} {d : Nat} {B : Int} {a : Addr} {n : Nat} {Q : PySem.Fin → Shared → Prop} (ho : s.heap.get? a = some (seqObj "list" (refsV ks).toArray n)) (h64 : ks.length < 64) (hk : ∀ p ∈ ks, IsTupleKey (mixKind P w) s.heap p.2 p.1) (ht : ∀ p ∈ ks, TieK B d p.2)
    (h : ∀ (out : Array Value) (ks' : List TK), out.toList = refsV ks' → ks'.Perm ks → ks'.Pairwise (fun p q => ordOf B p ≤ ordOf B q) → Q (.done (.ret .none)) { s with heap := sortedHeap s.heap a (refsV ks) out }) :
    wpAny (model P w) A (Builtin.«list.sort» ⟨[.ref a], []⟩) Q E s := by
  refine sort_ties ho (by rw [List.length_map]; exact h64) (ties_of hk ht) (fun v => TS.code B (numsOf s.heap v)) (fun v _ => rfl) fun out pm pw => ?_
  obtain ⟨ks', e, pk⟩ := pick_perm pm
  refine h out ks' e pk ?_
  rw [e] at pw
  refine List.Pairwise.imp_of_mem (fun {p q} hp hq hle => ?_) (List.pairwise_map.mp pw)
  rw [nums_at (hk p (pk.mem_iff.mp hp)), nums_at (hk q (pk.mem_iff.mp hq))] at hle
  exact hle
/-- sorted(xs) of a list -/
theorem sorted_list {l : Addr} {ks : List TK} {d : Nat} {B : Int} {Q : Value → Shared → Prop} (hl : s.heap.IsList l (refsV ks).toArray) (h64 : ks.length < 64) (hk : ∀ p ∈ ks, IsTupleKey (mixKind P w) s.heap p.2 p.1) (ht : ∀ p ∈ ks, TieK B d p.2)
    (h : ∀ (h' : Heap) (p : Addr) (c : Nat) (out : Array Value) (ks' : List TK), (∀ b o, s.heap.get? b = some o → h'.get? b = some o) → s.heap.objs.size ≤ p → h'.get? p = some (seqObj "list" out c) → out.toList = refsV ks' → ks'.Perm ks → ks'.Pairwise (fun p q => ordOf B p ≤ ordOf B q) → Q (.ref p) { s with heap := h' }) :
    wpAny (model P w) A (call (.builtin "sorted") [.ref l]) Q E s := by
  have hz : (refsV ks).length < 64 := by
    rw [List.length_map]
    exact h64
  refine Calls.call_function_entry kind_sorted plain_sorted entry_sorted (args_sorted1 _) ?_
  unfold Builtin.«sorted»
  refine wpAny_bind (m := checkCount "sorted" 1 1 _) (wpAny_pure (wpAny_bind (collect_list hl ?_ (by rw [sizeLine_eq]; omega))))
  refine wpAny_bind (wpAny_newList ?_ (by rw [sizeLine_eq]; omega))
  have sz : ((s.heap.push (seqObj "list" #[] 0)).update s.heap.objs.size (Obj.mapSeq (· ++ (refsV ks).toArray))).objs.size = s.heap.objs.size + 1 := by
    rw [Heap.size_update, size_push']
  have k0 : ∀ b o, s.heap.get? b = some o → ((s.heap.push (seqObj "list" #[] 0)).update s.heap.objs.size (Obj.mapSeq (· ++ (refsV ks).toArray))).get? b = some o := fun b o e => by
    have lt := Heap.lt_size e
    rw [Heap.get?_update_ne _ _ _ _ (Nat.ne_of_lt lt)]
    exact Heap.get?_push_of_some _ e
  show wpAny _ _ _ _ _ { s with heap := ((s.heap.push (seqObj "list" #[] 0)).update s.heap.objs.size (Obj.mapSeq (· ++ (refsV ks).toArray))).push (seqObj "list" (refsV ks).toArray 0) }
  generalize (s.heap.push (seqObj "list" #[] 0)).update s.heap.objs.size (Obj.mapSeq (· ++ (refsV ks).toArray)) = h0 at sz k0 ⊢
  have hoL : (h0.push (seqObj "list" (refsV ks).toArray 0)).get? h0.objs.size = some (seqObj "list" (refsV ks).toArray 0) := Heap.get?_push_size _ rfl
  have k1 : ∀ b o, s.heap.get? b = some o → (h0.push (seqObj "list" (refsV ks).toArray 0)).get? b = some o := fun b o e => Heap.get?_push_of_some _ (k0 b o e)
  refine wpAny_bind (wpAny_holding (wpAny_call_entry slot_list_sort ⟨_, hoL, rfl⟩ entry_list_sort (sort_new (s := { s with heap := h0.push (seqObj "list" (refsV ks).toArray 0) }) hoL h64 (fun p hp => tup_stay (hk p hp) k1) ht fun out ks' eo pk pw => ⟨_, rfl, ?_⟩) (args_list_sort _)))
  obtain ⟨c, hc⟩ := sortedHeap_at (out := out) hoL
  refine wpAny_pure ⟨_, rfl, h _ h0.objs.size c out ks' (fun b o e => ?_) (by omega) hc eo pk pw⟩
  have lt : b < h0.objs.size := Heap.lt_size (k0 b o e)
  rw [sortedHeap_old (Nat.ne_of_lt lt) (by rw [size_push']; exact Nat.lt_succ_of_lt lt)]
  exact k1 b o e
/-- sorted(s) of a set of ties -/
theorem sorted_set {a : Addr} {L : List TK} {es : Array (Int × Value)} {ep : Nat} {t : SetTable} {Q : Value → Shared → Prop} (R : Hs (mixKind P w) s.heap a L es ep t) (hh : A.handled = none) {d : Nat} {B : Int} (ht : ∀ p ∈ L, TieK B d p.2)
    (h : ∀ (s' : Shared) (p : Addr) (c : Nat) (out : Array Value) (L' : List TK), (∀ b o, s.heap.get? b = some o → s'.heap.get? b = some o) → s'.gens = s.gens → s'.os = s.os → s.heap.objs.size ≤ p → s'.heap.get? p = some (seqObj "list" out c) → out.toList = refsV L' → L'.Perm L →
      L'.Pairwise (fun p q => ordOf B p ≤ ordOf B q) → Q (.ref p) s') : wpAny (model P w) A (call (.builtin "sorted") [.ref a]) Q E s := by
  obtain ⟨o, ho, hex, hd⟩ := R.ob
  have hsz := size_of R.en
  have hfew := R.few
  refine Calls.call_function_entry kind_sorted plain_sorted entry_sorted (args_sorted1 _) ?_
  unfold Builtin.«sorted»
  refine wpAny_bind (m := checkCount "sorted" 1 1 _) (wpAny_pure ?_)
  refine wpAny_bind (collect_set (A := A.in1) hh ⟨o, ho, hex.1, hd⟩ R.fits (by unfold scanBound; omega) R.tab.ris R.led fun s1 vs k1 hz g1 o1 pm => ?_)
  have hes : es.toList.map (·.2) = refsV L := by
    rw [R.en]
    unfold ents
    rw [List.map_map]
    rfl
  rw [hes] at pm
  obtain ⟨L1, rfl, p1⟩ := pick_perm pm
  have hlen : L1.length < 64 := by
    rw [p1.length_eq]
    exact hfew
  refine wpAny_bind (wpAny_newList ?_ (by rw [List.length_map, sizeLine_eq]; omega))
  have hoL : (s1.heap.push (seqObj "list" (refsV L1).toArray 0)).get? s1.heap.objs.size = some (seqObj "list" (refsV L1).toArray 0) := Heap.get?_push_size _ rfl
  have k2 : ∀ b o, s.heap.get? b = some o → (s1.heap.push (seqObj "list" (refsV L1).toArray 0)).get? b = some o := fun b o e => Heap.get?_push_of_some _ (k1 b o e)
  refine wpAny_bind (wpAny_holding (wpAny_call_entry slot_list_sort ⟨_, hoL, rfl⟩ entry_list_sort (sort_new (s := { s1 with heap := s1.heap.push (seqObj "list" (refsV L1).toArray 0) }) hoL hlen (fun p hp => tup_stay (R.tup p (p1.mem_iff.mp hp)) k2) (fun p hp => ht p (p1.mem_iff.mp hp)) fun out L' eo pk pw => ⟨_, rfl, ?_⟩) (args_list_sort _)))
  obtain ⟨c, hc⟩ := sortedHeap_at (out := out) hoL
  refine wpAny_pure ⟨_, rfl, h _ s1.heap.objs.size c out L' (fun b u e => ?_) g1 o1 hz hc eo (pk.trans p1) pw⟩
  have lt := Heap.lt_size (k1 b u e)
  show (sortedHeap (s1.heap.push (seqObj "list" (refsV L1).toArray 0)) s1.heap.objs.size (refsV L1) out).get? b = some u
  rw [sortedHeap_old (Nat.ne_of_lt lt) (by rw [size_push']; exact Nat.lt_succ_of_lt lt)]
  exact k2 b u e
end
/-! ### over the layer -/
def SetX (P : Program) (w : World) (a : Addr) (L : List TK) : HO := .ext fun h => ∃ (es : Array (Int × Value)) (ep : Nat) (t : SetTable), (∃ o, h.get? a = some o ∧ o.ExactSet ∧ o.data = .set es ep t) ∧ es.toList = ents (mixKind P w) L ∧ TabOk t (hashes (mixKind P w) L) ∧ (L.map (·.2)).Nodup ∧
  (w.params.followText "set-order" = true ∨ t.led = true) ∧ L.length * 5 < t.mask * 3 ∧ L.length < 64
theorem setX_new {P : Program} {w : World} {H : Hp} {h : Heap} {a : Addr} {L : List TK} {es : Array (Int × Value)} {ep : Nat} {t : SetTable} (R : Hs (mixKind P w) h a L es ep t) : ObjOk P w H h a (SetX P w a L) := by
  obtain ⟨o, ho, r⟩ := R.ob
  refine ⟨⟨es, ep, t, ⟨o, ho, r⟩, R.en, R.tab, R.nd, R.led, R.room, R.few⟩, ⟨o, ho⟩, fun h1 h2 z k => ?_⟩
  obtain ⟨e1, e2, e3, ⟨u, hu, r'⟩, q⟩ := z
  exact ⟨e1, e2, e3, ⟨u, k u hu, r'⟩, q⟩
theorem keys_items {P : Program} {w : World} : ∀ {k : List Key} {us : List Value}, Vals (k.map kV) us → ItemsAre (mixKind P w) k us
  | [], _, .nil => .nil
  | .inl i :: k, _, .cons r t => by
    obtain ⟨tk, rfl⟩ := r
    exact .cons (mixKind_int P w i tk) (keys_items t)
  | .inr z :: k, _, .cons r t => by
    obtain ⟨tk, rfl⟩ := r
    exact .cons (mixKind_str P w z tk) (keys_items t)
theorem refs_vals : ∀ {ks : List TK} {us : List Value}, Vals (refs ks) us → us = refsV ks
  | [], _, .nil => rfl
  | p :: ks, _, .cons r t => by
    cases r
    rw [refs_vals t]
    rfl
theorem vals_refs : ∀ ks : List TK, Vals (refs ks) (refsV ks)
  | [] => .nil
  | p :: ks => .cons rfl (vals_refs ks)
section
variable {X : Cx} {pins : List (Addr × Obj)} {σ : L2.St} {H : Hp} {s : Shared}
theorem key_at (I : L2.Inv X pins σ H s) {b : Addr} {k : List Key} (h : SqT X.K H b (k.map kV)) : IsTupleKey (mixKind X.prog X.w) s.heap k b := by
  obtain ⟨its, r, ⟨o, ho, hc, n, hd⟩, _⟩ := I.tuple h
  exact ⟨o, its.toArray, n, ho, hc, hd, by simpa using keys_items r⟩
/-- set(xs) -/
def rSetX (K : PySem.W.Frag) (P : Program) (w : World) : List V → Hp → VK → Prop := fun xs H Q => ∃ l ks, xs = [V.ref l] ∧ (SqL K H l (refs ks) ∨ SqT K H l (refs ks)) ∧ (∀ p ∈ ks, SqT K H p.1 (p.2.map kV)) ∧ ks.length < 64 ∧
  ∀ a L, H a = none → (∀ p ∈ L, p ∈ ks) → (∀ p ∈ ks, p.2 ∈ L.map (·.2)) → Q (.ref a) (upd H a (SetX P w a L))
theorem cr_setX (hc : X.calm = true) (hu : X.A.units + 64 < cLine) : CallR X (.type "set") (rSetX X.K X.prog X.w) := by
  rintro pins s σ H xs us Q I r ⟨l, ks, rfl, hl, hk, hf, q⟩
  rw [Vals.ref1 r]
  have hn : H s.heap.objs.size = none := I.hok.fresh (Nat.le_refl _)
  have fin : ∀ (h' : Heap) (tk : Nat) (L : List TK) es ep t, Hs (mixKind X.prog X.w) h' s.heap.objs.size L es ep t → Brought ks ks.length L → (∀ b o, s.heap.get? b = some o → h'.get? b = some o) → EP X pins σ Q (.ref s.heap.objs.size) { s with heap := h', toks := tk } := fun h' tk L es ep t R g k =>
    ⟨.ref s.heap.objs.size, upd H s.heap.objs.size (SetX X.prog X.w s.heap.objs.size L), I.laid (t' := tk) k (Nat.le_refl _) (setX_new R), rfl, q _ L hn (fun p hp => List.mem_of_mem_take (g.of p hp)) fun p hp => g.all p (by rw [List.take_length]; exact hp)⟩
  rcases hl with hl | hl
  · obtain ⟨its, rv, pl, hz⟩ := I.list hl
    exact set_of_list ks (I.ok.hd hc) pl.isList (by simpa using refs_vals rv) (fun p hp => key_at I (hk p hp)) hf (by omega) fin
  · obtain ⟨its, rv, pl, hz⟩ := I.tuple hl
    exact set_of_tuple ks (I.ok.hd hc) pl (by simpa using refs_vals rv) (fun p hp => key_at I (hk p hp)) hf (by omega) fin
/-- sorted(s), s such a set, or a list of ties -/
def rSortX (K : PySem.W.Frag) (P : Program) (w : World) : List V → Hp → VK → Prop := fun vs H Q => ∃ a L d B, vs = [V.ref a] ∧ (H a = some (SetX P w a L) ∨ (SqL K H a (refs L) ∧ L.length < 64)) ∧ (∀ p ∈ L, SqT K H p.1 (p.2.map kV)) ∧ (∀ p ∈ L, TieK B d p.2) ∧
  ∀ L' p, L'.Perm L → L'.Pairwise (fun p q => ordOf B p ≤ ordOf B q) → (H a = some (SetX P w a L) → (L'.map (·.2)).Nodup) → H p = none → Q (.ref p) (upd H p (.lst (refs L')))
theorem cr_sortX (hc : X.calm = true) : CallR X (.builtin "sorted") (rSortX X.K X.prog X.w) := by
  rintro pins s σ H vs us Q I r ⟨a, L, d, B, rfl, ha, hk, ht, q⟩
  rw [Vals.ref1 r]
  by_cases hset : H a = some (SetX X.prog X.w a L)
  · obtain ⟨⟨es, ep, t, ob, en, tab, nd, led, room, few⟩, _, _⟩ := I.hok a _ hset
    refine sorted_set ⟨ob, en, tab, nd, fun p hp => key_at I (hk p hp), led, room, few⟩ (I.ok.hd hc) ht fun s' p c out L' k g o hp hg ho pm pw => ?_
    have hlen : (refs L').length ≤ sizeLine := by
      rw [List.length_map, pm.length_eq, sizeLine_eq]
      omega
    have hn : H p = none := I.hok.fresh hp
    have hv : Vals (refs L') out.toList := by
      rw [ho]
      exact vals_refs L'
    have J := I.call (h' := s'.heap) (g' := s'.gens) (d' := s'.drawn) (t' := s'.toks) (ch := []) (Un.laid k hp hn) (I.hok.laid (o := .lst (refs L')) k hp ⟨hlen, out.toList, c, hv, hg⟩) (by rw [g]; exact I.bare) (fun _ z => nomatch z)
    have e : s' = { s with heap := s'.heap, gens := s'.gens, drawn := s'.drawn, toks := s'.toks } := by
      obtain ⟨a1, a2, a3, a4, a5⟩ := s'
      dsimp only at o
      subst o
      rfl
    rw [e]
    exact ⟨.ref p, _, J, rfl, q L' p pm pw (fun _ => (pm.map (·.2)).nodup_iff.mpr nd) hn⟩
  · rcases ha with ha | ⟨hl, h64⟩
    · exact absurd ha hset
    · obtain ⟨its, rv, pl, hz⟩ := I.list hl
      have ei := refs_vals rv
      subst ei
      refine sorted_list pl.isList h64 (fun p hp => key_at I (hk p hp)) ht fun h' p c out L' k hp hg ho pm pw => ?_
      have hlen : (refs L').length ≤ sizeLine := by
        rw [List.length_map, pm.length_eq, sizeLine_eq]
        omega
      have hv : Vals (refs L') out.toList := by
        rw [ho]
        exact vals_refs L'
      exact ⟨.ref p, _, I.laid (o := .lst (refs L')) (t' := s.toks) k hp ⟨hlen, out.toList, c, hv, hg⟩, rfl, q L' p pm pw (fun z => absurd z hset) (I.hok.fresh hp)⟩
end
end Sg
/-! list(text), d.setdefault(tuple, ..), enumerate(tuple). -/
namespace PySem
open Sem (wp)
theorem enum_one {v : Value} {o : Obj} {H : Heap → Prop} (B : Begins v o H) :
    Meets (Builtin.«enumerate.__new__» ⟨[.type "enumerate", v], []⟩) (fun _ R s => H s.heap ∧ R (.ok (.ret (.ref (s.heap.push o).objs.size))) { s with heap := (s.heap.push o).push { cls := .type "enumerate", data := .fields #[.none, .bool false, .ref s.heap.objs.size, rawInt 0, .none, .none] } }) :=
  .of_wp fun prog w A R s h => by
    obtain ⟨hp, g, d, tk, os⟩ := s
    obtain ⟨h1, h⟩ := h
    have z0 := sub_enumerate
    have go : ∀ {A' : Around} {E : Value → Shared → Prop} {Q : Value → Shared → Prop}, Q (.ref hp.objs.size) ⟨hp.push o, g, d, tk, os⟩ → wpAny (model prog w) A' (pyIter v) Q E ⟨hp, g, d, tk, os⟩ := fun q => B.iter prog w _ _ ⟨hp, g, d, tk, os⟩ _ h1 q
    wp_walk using go
    refine wpAny_stack_any fun st => wpAny_pure ?_
    split
    · rename_i c _ _ _ _ _
      cases (c == Value.type "enumerate")
      · wp_walk using go
        exact ⟨_, rfl, h⟩
      · wp_walk using go
        exact ⟨_, rfl, h⟩
    · wp_walk using go
      exact ⟨_, rfl, h⟩
theorem enum_tuple {prog : Program} {w : World} {A : Around} {E : Value → Shared → Prop} {s : Shared} {l : Addr} {items : Array Value} {Q : Value → Shared → Prop} (ht : s.heap.IsTuple l items)
    (h : ∀ h', IsEnum h' (s.heap.objs.size + 1) s.heap.objs.size 0 .none → h'.IsTupleIter s.heap.objs.size l 0 → h'.IsTuple l items → (∀ b o, s.heap.get? b = some o → h'.get? b = some o) → Q (.ref (s.heap.objs.size + 1)) { s with heap := h' }) :
    wpAny (model prog w) A (call (.type "enumerate") [.ref l]) Q E s := by
  refine callType_new F.called_enumerate (by decide) (F.typeCall_enumerate_1 _) (F.newCall_enumerate_1 _) (fun ob => F.args_object_init_2 ob _) F.entry_enumerate_new (enum_one (begins_tuple l items)) ⟨ht, ?_⟩
  have hz : (s.heap.push { cls := .type "tuple_iterator", data := .fields #[.ref l, .int 0 0] }).objs.size = s.heap.objs.size + 1 := Heap.size_push ..
  have kk : ∀ b o, s.heap.get? b = some o → ((s.heap.push { cls := .type "tuple_iterator", data := .fields #[.ref l, .int 0 0] }).push { cls := .type "enumerate", data := .fields #[.none, .bool false, .ref s.heap.objs.size, rawInt 0, .none, .none] }).get? b = some o := fun b o e => Heap.get?_push_of_some _ (Heap.get?_push_of_some _ e)
  have he : IsEnum ((s.heap.push { cls := .type "tuple_iterator", data := .fields #[.ref l, .int 0 0] }).push { cls := .type "enumerate", data := .fields #[.none, .bool false, .ref s.heap.objs.size, rawInt 0, .none, .none] }) (s.heap.objs.size + 1) s.heap.objs.size 0 .none := by
    have q := Heap.get?_push_size (s.heap.push { cls := .type "tuple_iterator", data := .fields #[.ref l, .int 0 0] }) (o := { cls := .type "enumerate", data := .fields #[.none, .bool false, .ref s.heap.objs.size, rawInt 0, .none, .none] }) rfl
    rw [hz] at q
    exact q
  show _ ∧ _
  rw [hz]
  exact ⟨⟨_, he, rfl⟩, h _ he ⟨_, Heap.get?_push_of_some _ (Heap.get?_push_size _ rfl), rfl, rfl⟩ (ht.at fun o e => kk l o e) kk⟩
end PySem
namespace Sg
open PySem PySem.Spec PyProof.Rows L2
/-! ### list('abc') -/
def signsV (z : Str) : List V := z.cps.toList.map fun c => V.str ⟨#[c]⟩
def rListS : List V → Hp → VK → Prop := fun xs H Q => ∃ z, xs = [.str z] ∧ z.length ≤ 1000 ∧ ∀ p, H p = none → Q (.ref p) (upd H p (.lst (signsV z)))
theorem cr_listS {X : Cx} (hc : X.calm = true) : CallR X (.type "list") rListS := by
  rintro pins s σ H xs us Q I r ⟨z, rfl, hz, q⟩
  obtain ⟨u, rfl, ⟨t, rfl⟩⟩ := vals1 r
  have hn : z.cps.size ≤ sizeLine := Nat.le_of_lt (small1000 hz)
  refine call_list_str (hn := hn) (I.ok.hd hc) z t fun h' tk acc c kk ho hi => ?_
  have hlen : (signsV z).length = z.cps.size := by
    unfold signsV
    rw [List.length_map, Array.length_toList]
  have hv : Vals (signsV z) acc.toList := by
    refine vals_of_at ?_ fun j x u hx hu => ?_
    · rw [hlen, Array.length_toList, hi.1]
    · unfold signsV at hx
      rw [List.getElem?_map] at hx
      rw [Array.getElem?_toList] at hu
      have sg := hi.2 j u hu
      obtain ⟨cc, tt, hcc, rfl⟩ := sg
      rw [Array.getElem?_toList, hcc] at hx
      cases hx
      exact ⟨_, rfl⟩
  exact ⟨.ref s.heap.objs.size, _, I.laid (o := .lst (signsV z)) (t' := tk) kk (Nat.le_refl _) ⟨by rw [hlen]; exact hn, acc.toList, c, hv, ho⟩, rfl, q _ (I.hok.fresh (Nat.le_refl _))⟩
/-! ### d.setdefault(k, x), k a tuple -/
section
variable {X : Cx} {pins : List (Addr × Obj)} {σ : L2.St} {H : Hp} {s : Shared} {a b : Addr} {r : Value} {y : V} {k : List Key} {A : Around} {E : Value → Shared → Prop}
theorem d_setT {kvs : List (List Key × V)} {Q : Value → Shared → Prop} (hu : A.units + 1 < cLine) (I : L2.Inv X pins σ H s) (e : H a = some (.dT kvs)) (eb : H b = some (.tup (k.map kV))) (rd : L2.RelV y r) (hl : kvs.length < sizeLine)
    (h1 : ∀ v, valV kvs k = some v → ∀ (u : Value) (s' : Shared), L2.Inv X pins σ H s' → L2.RelV v u → Q u s') (h2 : valV kvs k = none → ∀ (u : Value) (s' : Shared), L2.Inv X pins σ (upd H a (.dT (putK kvs k y))) s' → L2.RelV y u → Q u s') :
    wpAny (model X.prog X.w) A (call (.builtin "dict.setdefault") [.ref a, .ref b, r]) Q E s := by
  obtain ⟨z, hd, xs, rel, dd⟩ := dt_of I.hok e
  have hz : xs.length ≤ sizeLine := by
    rw [← Paired.length rel]
    exact z
  have q := rel.val k
  refine call_setdefault_heap (hsz := hz) (tupleKind_room_in1 hu) (key_of I.hok eb) hd dd (fun p hp => ?_) fun hn h' dd' hs => ?_
  · rw [hp] at q
    cases q0 : valV kvs k with
    | none =>
      rw [q0] at q
      exact (show False from q).elim
    | some v0 =>
      rw [q0] at q
      exact h1 v0 q0 _ _ (I.tok _) q
  · rw [hn] at q
    cases q0 : valV kvs k with
    | some v0 =>
      rw [q0] at q
      exact (show False from q).elim
    | none =>
      have hl2 : (putK kvs k y).length ≤ sizeLine := by
        have := length_putK kvs k y
        omega
      obtain ⟨ob, es, ep, hq, g2, g3, g4, _, g5⟩ := dd'
      refine h2 q0 _ _ (d_write I (by rw [e]; exact True.intro) hs ⟨ob, hq⟩ ⟨hl2, hd, _, (rel.put k eb rd).keeps fun c ys ec => ?_, ob, es, ep, hq, g2, g3, g4, g5⟩) rd
      rw [upd_ne (ne_of ec e (fun z => nomatch z))]
      exact ec
end
def tSetT (td ty tx : TE) : TE := fun σ H Q => td σ H fun x G => ∃ a kv0, x = .ref a ∧ G a = some (.dT kv0) ∧ ty σ G fun y J => tx σ J fun z L => ∃ b kvs k, y = .ref b ∧ L a = some (.dT kvs) ∧ L b = some (.tup (k.map kV)) ∧ kvs.length < sizeLine ∧
  (∀ v, valV kvs k = some v → Q v L) ∧ (valV kvs k = none → Q z (upd L a (.dT (putK kvs k z))))
theorem pe_setT {X : Cx} {o e f : Expr} {td ty tx : TE} {apos cpos : Pos} (hu : X.A.units + 1 < cLine) (ho : PE X o td) (he : PE X e ty) (hf : PE X f tx) (m : M2 X o "setdefault" apos e f cpos) : PE X (.Call (.Attribute o "setdefault" apos) [e, f] [] cpos) (tSetT td ty tx) := by
  refine ⟨fun pins s σ H Q I h => wpAny_Call_method m.base m.few m.line PySem.F.plainAttrs_dict PySem.F.slot_dict_setdefault PySem.F.type_dict_setdefault (thn (ho.run pins s σ H _ I h) fun u s1 ⟨x, G, I1, rx, a, kv0, ex, d, q1⟩ => ?_)⟩
  subst ex
  obtain rfl : u = Value.ref a := rx
  obtain ⟨t1, t2, _⟩ := isD_at I1 (a := a) (by first | exact .inr ⟨_, .inl d⟩ | exact ⟨_, .inr d⟩ | exact .inr ⟨_, d⟩ | (unfold IsD; simp [d]))
  refine ⟨t1, t2, ?_⟩
  rw [m.trees]
  refine Calls.callWith_builtin rfl (Calls.evalArgs_plain (Calls.spliced_cons (thn (he.run pins s1 σ G _ I1 q1) fun iv s2 ⟨y, J, I2, ry, q2⟩ =>
    Calls.spliced_cons (thn (hf.run pins s2 σ J _ I2 q2) fun fv s3 ⟨z, L, I3, rz, b, kvs, k, ey, ea, eb, hl, q3, q4⟩ => Calls.spliced_nil ?_))))
  subst ey
  cases (show iv = Value.ref b from ry)
  exact d_setT hu I3 ea eb rz hl (fun v hv u' s4 I4 r' => ⟨v, _, I4, r', q3 v hv⟩) fun hn u' s4 I4 r' => ⟨z, _, I4, r', q4 hn⟩
/-! ### for i, x in enumerate(xs), xs a list or a tuple -/
def IteT (K : PySem.W.Frag) (a : Addr) : It :=
  ⟨fun i H => ∃ xs x, SqT K H a xs ∧ xs[i]? = some x, fun i H v H' => ∃ T x, v = .ref T ∧ H T = none ∧ H' = upd H T (.tup [.int (i : Nat), x]) ∧ ∀ xs, SqT K H a xs → xs[i]? = some x, fun i H => ∃ xs, SqT K H a xs ∧ xs.length ≤ i⟩
theorem walk_enumT {K : PySem.W.Frag} {a : Addr} {xs : List V} : Walk (IteT K a) xs.length (fun H => SqT K H a xs) (YPair (fun i => some (.int (i : Nat))) (fun i => xs[i]?)) where
  goes := fun i H hi g => ⟨xs, xs[i], g, List.getElem?_eq_getElem hi⟩
  stops := fun H g => ⟨xs, g, Nat.le_refl _⟩
  yields := fun i H v H' hi g y => by
    obtain ⟨T, x, e, n, eH, h1⟩ := y
    exact ⟨T, _, x, e, n, eH, rfl, h1 _ g⟩
theorem turn_enumT {P : Program} {w : World} {K : PySem.W.Frag} {elts : List Expr} {kk : Nat} {tpos : Pos} {its : List Value} (a e it : Addr) (hne : e ≠ it) (hea : e ≠ a) (hia : a ≠ it) :
    Turn P w K (.Tuple elts kk tpos) (IteT K a) [e, it] e (fun i h => (∃ old, IsEnum h e it ((i : Nat) : Int) old) ∧ h.IsTupleIter it a i) where
  mem := by simp
  obj := fun i h st b hb => by
    obtain ⟨⟨old, he⟩, ⟨o, ho, hc, hd⟩⟩ := st
    have z : b = e ∨ b = it := by simpa using hb
    rcases z with rfl | rfl
    · exact ⟨_, he, fun v q => nomatch q⟩
    · exact ⟨o, ho, fun v q => by rw [hd] at q; cases q⟩
  keep := fun i h h' st k => let ⟨⟨old, he⟩, hi⟩ := st; ⟨⟨old, k e (by simp) _ he⟩, hi.at fun o q => k it (by simp) o q⟩
  item := by
    intro X hP hw hK hc i pins s σ H E I hf st hg
    subst hP hw hK
    obtain ⟨⟨old, he⟩, hit⟩ := st
    obtain ⟨xs, x, hq, hx⟩ := hg
    obtain ⟨us, rv, pl, hz⟩ := I.tuple hq
    obtain ⟨u, hu, ru⟩ := rv.get hx
    have hel : e < s.heap.objs.size := Heap.lt_size he
    have hil : it < s.heap.objs.size := by
      obtain ⟨_, q, _⟩ := hit
      exact Heap.lt_size q
    have hiu : i < us.toArray.size := by
      have := (List.getElem?_eq_some_iff.mp hu).1
      simpa using this
    refine wpAny_pyNext_enum_itemD (Draws.tuple (show X.A.in1.handled = none from by rw [show X.A.in1.handled = X.A.handled from rfl]; exact I.ok.hd hc) it a hia us.toArray) he ⟨hit, pl⟩ hiu hne (by simp [hne, hea]) fun v h' tk hPv ho hst' hT hsz hk => ?_
    have ev : v = u := by
      have q : us.toArray[i]? = some v := hPv
      have q2 : us.toArray[i]? = some u := by simpa using hu
      exact Option.some.inj (q.symm.trans q2)
    subst ev
    refine ⟨_, rfl, wpAny_letOwnedTupleGo_enum (s := { s with heap := h', toks := tk + 1 }) ho fun h2 he' sb => ?_⟩
    have hT2 : h2.get? s.heap.objs.size = some { cls := .type "tuple", data := .seq #[.int i tk, v] } := (sb.2 _ (Nat.ne_of_gt hel)).trans hT
    have new : ObjOk X.prog X.w (upd H s.heap.objs.size (.tup [.int (i : Nat), x])) h2 s.heap.objs.size (.tup [.int (i : Nat), x]) := ⟨by show 2 ≤ sizeLine; decide, [.int i tk, v], .cons ⟨_, rfl⟩ (.cons ru .nil), ⟨_, hT2, rfl, _, rfl⟩⟩
    have J := I.turnedNew (t' := tk + 1) (ch := [e, it]) (h' := h2) (fun b ob hb q => (sb.2 b (fun z => hb (by simp [z]))).trans (hk b ob (fun z => hb (by simp [z])) (fun z => hb (by simp [z])) q)) hf (Nat.le_refl _) new
    refine ⟨.ref s.heap.objs.size, _, J, rfl, ⟨_, x, rfl, I.hok.fresh (Nat.le_refl _), rfl, fun ys hy => by rw [I.tuple_inj hy hq]; exact hx⟩, ⟨⟨v, ?_⟩, hst'.1.at fun o q => (sb.2 it (Ne.symm hne)).trans q⟩, fun b hb => ?_⟩
    · rw [show ((i + 1 : Nat) : Int) = (i : Int) + 1 by omega]
      exact he'
    · have lt : b < s.heap.objs.size := by
        have z : b = e ∨ b = it := by simpa using hb
        rcases z with rfl | rfl
        · exact hel
        · exact hil
      rw [upd_ne (Nat.ne_of_lt lt)]
      exact (hf b hb).1
  done := by
    intro X hP hw hK hc i pins s σ H E I hf st hg
    subst hP hw hK
    obtain ⟨⟨old, he⟩, hit⟩ := st
    obtain ⟨xs, hq, hx⟩ := hg
    obtain ⟨us, rv, pl, hz⟩ := I.tuple hq
    obtain ⟨f0, f1, f2, f3, f4, f5⟩ := hf it (by simp)
    have hn : us.toArray[i]? = none := by
      have := rv.length
      simp
      omega
    have hh : X.A.in1.handled = none := by
      rw [show X.A.in1.handled = X.A.handled from rfl]
      exact I.ok.hd hc
    have D : Draws X.prog X.w X.A.in1 it [it, a] i (fun _ _ => False) (fun j h => j = i ∧ h.IsTupleIter it a i ∧ h.IsTuple a us.toArray) := {
      live := fun j h st => let ⟨o, ho, _⟩ := st.2.1; ⟨o, ho⟩
      frame := fun j h h' st k => ⟨st.1, st.2.1.at fun o q => k it (by simp) o q, st.2.2.at fun o q => k a (by simp) o q⟩
      item := fun j s Q E hj st _ => absurd (st.1 ▸ hj) (Nat.lt_irrefl _)
      done := fun s Q E st hE => wpAny_nextOf_tuple_end hh st.2.1 st.2.2 hn hE }
    exact wpAny_pyNext_enum_endD D he ⟨rfl, hit, pl⟩ fun h' eb => ⟨rfl, I.turned (t' := s.toks) (fun b o hb q => eb b o hb q) f0 f1 f3 f4 f5⟩
  self := fun A i s Q E st h => let ⟨⟨_, he⟩, _⟩ := st; wpAny_pyIter_enum he h
def iEnA (K : PySem.W.Frag) (ta : TA) : TI := fun σ H R => ta σ H fun vs G => ∃ a xs, vs = [.ref a] ∧ ((SqL K G a xs ∧ R (Ite K a) G) ∨ (SqT K G a xs ∧ R (IteT K a) G))
theorem pi_enA {X : Cx} {e : Expr} {ta : TA} {p pos tpos : Pos} {elts : List Expr} {kk : Nat} (hg : Gl X "enumerate") (hm : X.mg "enumerate" = none) (ha : PA X [e] ta) (hs : starEach [e] X.env = [(false, eval e X.env)] := by rfl) :
    PI X (.Tuple elts kk tpos) (.Call (.Name "enumerate" p) [e] [] pos) (iEnA X.K ta) := by
  refine ⟨fun pins s σ H R I h => Call_ (ld_blt I hg hm boot_enumerate (PyProof.Rows.callWith_type1 (thn (ha.run pos pins s σ H _ I h) fun us s1 ⟨vs, G, I1, r1, q1⟩ => ?_) hs rfl))⟩
  obtain ⟨a, xs, ex, q1⟩ := q1
  subst ex
  obtain ⟨u, rfl, ru⟩ := vals1 r1
  cases ru
  have fresh : ∀ b, b ∈ [s1.heap.objs.size + 1, s1.heap.objs.size] → FpOk X pins G b := fun b hb => by
    have z : b = s1.heap.objs.size + 1 ∨ b = s1.heap.objs.size := by simpa using hb
    have le : s1.heap.objs.size ≤ b := by
      rcases z with z | z
      · rw [z]
        exact Nat.le_succ _
      · rw [z]
        exact Nat.le_refl _
    exact I1.fpOk le (I1.hok.fresh le)
  rcases q1 with ⟨hq, q⟩ | ⟨hq, q⟩
  · obtain ⟨its, rv, pl, hz⟩ := I1.list hq
    refine call_enumerate_list pl.isList fun h' he hit hsz hk => wpAny_pyIter_enum he ?_
    exact ⟨s1.heap.objs.size + 1, [s1.heap.objs.size + 1, s1.heap.objs.size], _, _, G, rfl, I1.kept (t' := s1.toks) hk, turn_enum a (s1.heap.objs.size + 1) s1.heap.objs.size, ⟨⟨.none, he⟩, hit, Nat.succ_ne_self _⟩, fresh, q⟩
  · obtain ⟨its, rv, pl, hz⟩ := I1.tuple hq
    have lt : a < s1.heap.objs.size := by
      obtain ⟨o, ho, _⟩ := id pl
      exact Heap.lt_size ho
    refine enum_tuple pl fun h' he hit hT hk => wpAny_pyIter_enum he ?_
    exact ⟨s1.heap.objs.size + 1, [s1.heap.objs.size + 1, s1.heap.objs.size], _, _, G, rfl, I1.kept (t' := s1.toks) hk, turn_enumT (its := its) a (s1.heap.objs.size + 1) s1.heap.objs.size (Nat.succ_ne_self _) (Nat.ne_of_gt (Nat.lt_succ_of_lt lt)) (Nat.ne_of_lt lt), ⟨⟨.none, he⟩, hit⟩, fresh, q⟩
end Sg
namespace Sg
open PySem PySem.Spec PyProof.Rows L2
/-! ### ties as data -/
def kD : Key → PyData
  | .inl i => .int i
  | .inr x => .str x
def tD (k : List Key) : PyData := .tuple (k.map kD)
theorem dp_k (K : PySem.W.Frag) (H : Hp) (k : Key) : Dp K H (kV k) (kD k) := by
  cases k with
  | inl i => exact .int i
  | inr x => exact .str x
theorem dp_ks (K : PySem.W.Frag) (H : Hp) : ∀ ks : List Key, DpAll K H (ks.map kV) (ks.map kD)
  | [] => .nil
  | k :: ks => .cons (dp_k K H k) (dp_ks K H ks)
theorem dp_tie {K : PySem.W.Frag} {H : Hp} {a : Addr} {k : List Key} (h : SqT K H a (k.map kV)) : Dp K H (.ref a) (tD k) := .tup h (dp_ks K H k)
theorem eqv_k (a b : Key) : PyData.eqv (kD a) (kD b) = decide (a = b) := by
  cases a with
  | inl i =>
    cases b with
    | inl j =>
      show PyData.eqv (.int i) (.int j) = _
      rw [PyData.eqv]
      by_cases h : i = j
      · subst h
        simp
      · rw [decide_eq_false (fun z => h (Sum.inl.inj z))]
        exact beq_false_of_ne h
    | inr y =>
      show PyData.eqv (.int i) (.str y) = _
      rw [PyData.eqv, decide_eq_false (fun z => nomatch z)]
  | inr x =>
    cases b with
    | inl j =>
      show PyData.eqv (.str x) (.int j) = _
      rw [PyData.eqv, decide_eq_false (fun z => nomatch z)]
    | inr y =>
      show PyData.eqv (.str x) (.str y) = _
      rw [PyData.eqv]
      by_cases h : x = y
      · subst h
        simp
      · rw [decide_eq_false (fun z => h (Sum.inr.inj z))]
        exact beq_false_of_ne h
theorem eqv_ks : ∀ k k' : List Key, PyData.eqvAll (k.map kD) (k'.map kD) = decide (k = k')
  | [], [] => by rw [List.map_nil, PyData.eqvAll, decide_eq_true rfl]
  | [], b :: bs => by rw [List.map_nil, List.map_cons, PyData.eqvAll, decide_eq_false (fun z => nomatch z)]
  | a :: as, [] => by rw [List.map_nil, List.map_cons, PyData.eqvAll, decide_eq_false (fun z => nomatch z)]
  | a :: as, b :: bs => by
    rw [List.map_cons, List.map_cons, PyData.eqvAll, eqv_k, eqv_ks as bs]
    by_cases h1 : a = b
    · by_cases h2 : as = bs
      · subst h1 h2
        simp
      · rw [decide_eq_false h2, Bool.and_false, decide_eq_false (fun z => h2 (List.cons.inj z).2)]
    · rw [decide_eq_false h1, Bool.false_and, decide_eq_false (fun z => h1 (List.cons.inj z).1)]
theorem eqv_tie (k k' : List Key) : PyData.eqv (tD k) (tD k') = decide (k = k') := by
  unfold tD
  rw [PyData.eqv]
  exact eqv_ks k k'
def okK : Key → Bool
  | .inl _ => true
  | .inr x => PyData.strOk x
theorem can_k {k : Key} (h : okK k = true) : PyData.canLay0 (kD k) = true := by
  cases k with
  | inl i =>
    show PyData.canLay0 (.int i) = true
    rw [PyData.canLay0]
  | inr x =>
    show PyData.canLay0 (.str x) = true
    rw [PyData.canLay0]
    exact h
theorem can_all : ∀ {ds : List PyData}, (∀ d ∈ ds, PyData.canLay0 d = true) → PyData.canLayAll0 ds = true
  | [], _ => by rw [PyData.canLayAll0]
  | d :: ds, h => by
    rw [PyData.canLayAll0, h d (List.mem_cons_self ..), can_all fun e he => h e (List.mem_cons_of_mem _ he)]
    rfl
theorem deep_all {n : Nat} : ∀ {ds : List PyData}, (∀ d ∈ ds, PyData.depth d ≤ n) → PyData.depthAll ds ≤ n
  | [], _ => by
    rw [PyData.depthAll]
    exact Nat.zero_le _
  | d :: ds, h => by
    rw [PyData.depthAll]
    exact Nat.max_le.mpr ⟨h d (List.mem_cons_self ..), deep_all fun e he => h e (List.mem_cons_of_mem _ he)⟩
theorem deep_k (k : Key) : PyData.depth (kD k) ≤ 0 := by
  cases k with
  | inl i =>
    show PyData.depth (.int i) ≤ 0
    simp [PyData.depth]
  | inr x =>
    show PyData.depth (.str x) ≤ 0
    simp [PyData.depth]
theorem can_tie {k : List Key} (h : ∀ z ∈ k, okK z = true) : PyData.canLay0 (tD k) = true := by
  unfold tD
  rw [PyData.canLay0]
  exact can_all fun d hd => by
    obtain ⟨z, hz, rfl⟩ := List.mem_map.mp hd
    exact can_k (h z hz)
theorem deep_tie (k : List Key) : PyData.depth (tD k) ≤ 1 := by
  unfold tD
  rw [PyData.depth]
  have := deep_all (n := 0) (ds := k.map kD) fun d hd => by
    obtain ⟨z, hz, rfl⟩ := List.mem_map.mp hd
    exact deep_k z
  omega
theorem shaped_tie {k : List Key} (h : ∀ z ∈ k, okK z = true) : SeqAt.shaped (tD k) = true := by
  unfold SeqAt.shaped
  have := deep_tie k
  rw [can_tie h, decide_eq_true (by omega)]
  rfl
theorem TieK.ok {d : Nat} {k : List Key} (t : TieK 128 d k) : ∀ z ∈ k, okK z = true := by
  obtain ⟨c, ns, rfl, _, b⟩ := t
  intro z hz
  rcases List.mem_cons.mp hz with rfl | hz
  · have : (c : Int) < 128 := (b.head).2
    show PyData.strOk ⟨#[c]⟩ = true
    unfold PyData.strOk
    simp
    omega
  · obtain ⟨n, _, rfl⟩ := List.mem_map.mp hz
    rfl
/-- a list of ties as data -/
def lD (ks : List TK) : PyData := .list (ks.map fun p => tD p.2)
theorem dp_refs {K : PySem.W.Frag} {H : Hp} : ∀ {ks : List TK}, (∀ p ∈ ks, SqT K H p.1 (p.2.map kV)) → DpAll K H (refs ks) (ks.map fun p => tD p.2)
  | [], _ => .nil
  | p :: ks, h => .cons (dp_tie (h p (List.mem_cons_self ..))) (dp_refs fun q hq => h q (List.mem_cons_of_mem _ hq))
theorem dp_list {K : PySem.W.Frag} {H : Hp} {a : Addr} {ks : List TK} (hl : SqL K H a (refs ks)) (h : ∀ p ∈ ks, SqT K H p.1 (p.2.map kV)) : Dp K H (.ref a) (lD ks) := .lst hl (dp_refs h)
theorem can_list {ks : List TK} (h : ∀ p ∈ ks, ∀ z ∈ p.2, okK z = true) : PyData.canLay0 (lD ks) = true := by
  unfold lD
  rw [PyData.canLay0]
  exact can_all fun d hd => by
    obtain ⟨z, hz, rfl⟩ := List.mem_map.mp hd
    exact can_tie (h z hz)
theorem deep_list (ks : List TK) : PyData.depth (lD ks) ≤ 2 := by
  unfold lD
  rw [PyData.depth]
  have := deep_all (n := 1) (ds := ks.map fun p => tD p.2) fun d hd => by
    obtain ⟨z, hz, rfl⟩ := List.mem_map.mp hd
    exact deep_tie z.2
  omega
theorem shaped_list {ks : List TK} (h : ∀ p ∈ ks, ∀ z ∈ p.2, okK z = true) : SeqAt.shaped (lD ks) = true := by
  unfold SeqAt.shaped
  have := deep_list ks
  rw [can_list h, decide_eq_true (by omega)]
  rfl
theorem eqv_nil (ks : List TK) : PyData.eqv (lD ks) (.list []) = decide (ks = []) := by
  unfold lD
  cases ks with
  | nil => simp [PyData.eqv, PyData.eqvAll]
  | cons p ks => simp [PyData.eqv, PyData.eqvAll]
/-! ### the order of ties tells them apart -/
theorem code_inj {B : Int} : ∀ ns ms : List Int, ns.length = ms.length → TS.Bd B ns → TS.Bd B ms → TS.code B ns = TS.code B ms → ns = ms
  | [], [], _, _, _, _ => rfl
  | [], _ :: _, h, _, _, _ => by cases h
  | _ :: _, [], h, _, _, _ => by cases h
  | x :: xs, y :: ys, hl, h1, h2, e => by
    have hl' : xs.length = ys.length := Nat.succ.inj hl
    rcases Int.lt_trichotomy x y with h | h | h
    · have := TS.code_lt hl' h1.tail h2.tail h
      omega
    · subst h
      simp only [TS.code, hl'] at e
      rw [code_inj xs ys hl' h1.tail h2.tail (by omega)]
    · have := TS.code_lt hl'.symm h2.tail h1.tail h
      omega
theorem ord_inj {B : Int} {d : Nat} {p q : TK} (t1 : TieK B d p.2) (t2 : TieK B d q.2) (e : ordOf B p = ordOf B q) : p.2 = q.2 := by
  obtain ⟨c, ns, e1, l1, b1⟩ := t1
  obtain ⟨c', ms, e2, l2, b2⟩ := t2
  unfold ordOf at e
  rw [e1, e2] at e
  have f1 : (Sum.inr ⟨#[c]⟩ :: ns.map Sum.inl : List Key).map numK = (c : Int) :: ns := by
    rw [List.map_cons, nums_inl]
    rfl
  have f2 : (Sum.inr ⟨#[c']⟩ :: ms.map Sum.inl : List Key).map numK = (c' : Int) :: ms := by
    rw [List.map_cons, nums_inl]
    rfl
  rw [f1, f2] at e
  have := code_inj _ _ (by rw [List.length_cons, List.length_cons]; omega) b1 b2 e
  injection this with h1 h2
  have h1' : c = c' := Int.ofNat.inj h1
  rw [e1, e2, h1', h2]
theorem rise_eq : ∀ l m : List Int, l.Pairwise (· < ·) → m.Pairwise (· < ·) → (∀ x, x ∈ l ↔ x ∈ m) → l = m
  | [], [], _, _, _ => rfl
  | [], y :: _, _, _, h => by
    have := (h y).mpr (List.mem_cons_self ..)
    cases this
  | x :: _, [], _, _, h => by
    have := (h x).mp (List.mem_cons_self ..)
    cases this
  | x :: l, y :: m, h1, h2, h => by
    have a1 := List.pairwise_cons.mp h1
    have a2 := List.pairwise_cons.mp h2
    have exy : x = y := by
      rcases List.mem_cons.mp ((h x).mp (List.mem_cons_self ..)) with e | e
      · exact e
      · rcases List.mem_cons.mp ((h y).mpr (List.mem_cons_self ..)) with e' | e'
        · exact e'.symm
        · have := a2.1 x e
          have := a1.1 y e'
          omega
    subst exy
    rw [rise_eq l m a1.2 a2.2 fun z => ⟨fun hz => ?_, fun hz => ?_⟩]
    · rcases List.mem_cons.mp ((h z).mp (List.mem_cons_of_mem _ hz)) with e | e
      · have := a1.1 z hz
        omega
      · exact e
    · rcases List.mem_cons.mp ((h z).mpr (List.mem_cons_of_mem _ hz)) with e | e
      · have := a2.1 z hz
        omega
      · exact e
theorem keys_eq {B : Int} {d : Nat} : ∀ {U V : List TK}, (∀ p ∈ U, TieK B d p.2) → (∀ p ∈ V, TieK B d p.2) → U.map (ordOf B) = V.map (ordOf B) → U.map (·.2) = V.map (·.2)
  | [], [], _, _, _ => rfl
  | [], _ :: _, _, _, h => by cases h
  | _ :: _, [], _, _, h => by cases h
  | p :: U, q :: V, h1, h2, h => by
    rw [List.map_cons, List.map_cons] at h
    injection h with ha hb
    rw [List.map_cons, List.map_cons, ord_inj (h1 p (List.mem_cons_self ..)) (h2 q (List.mem_cons_self ..)) ha, keys_eq (fun z hz => h1 z (List.mem_cons_of_mem _ hz)) (fun z hz => h2 z (List.mem_cons_of_mem _ hz)) hb]
/-- rising, each key once: strictly -/
theorem strict_of {B : Int} {d : Nat} : ∀ {U : List TK}, (∀ p ∈ U, TieK B d p.2) → (U.map (·.2)).Nodup → U.Pairwise (fun p q => ordOf B p ≤ ordOf B q) → (U.map (ordOf B)).Pairwise (· < ·)
  | [], _, _, _ => List.Pairwise.nil
  | p :: U, ht, nd, ris => by
    rw [List.map_cons] at nd ⊢
    have a1 := List.nodup_cons.mp nd
    have a2 := List.pairwise_cons.mp ris
    refine List.pairwise_cons.mpr ⟨fun x hx => ?_, strict_of (fun z hz => ht z (List.mem_cons_of_mem _ hz)) a1.2 a2.2⟩
    obtain ⟨q, hq, rfl⟩ := List.mem_map.mp hx
    have h1 := a2.1 q hq
    have h2 : ordOf B p ≠ ordOf B q := fun e => a1.1 (by
      rw [ord_inj (ht p (List.mem_cons_self ..)) (ht q (List.mem_cons_of_mem _ hq)) e]
      exact List.mem_map.mpr ⟨q, hq, rfl⟩)
    omega
theorem same_keys {B : Int} {d : Nat} {U V : List TK} (h1 : ∀ p ∈ U, TieK B d p.2) (h2 : ∀ p ∈ V, TieK B d p.2) (n1 : (U.map (·.2)).Nodup) (n2 : (V.map (·.2)).Nodup) (r1 : U.Pairwise fun p q => ordOf B p ≤ ordOf B q)
    (r2 : V.Pairwise fun p q => ordOf B p ≤ ordOf B q) (h : ∀ k, k ∈ U.map (·.2) ↔ k ∈ V.map (·.2)) : U.map (·.2) = V.map (·.2) := by
  refine keys_eq h1 h2 (rise_eq _ _ (strict_of h1 n1 r1) (strict_of h2 n2 r2) fun x => ?_)
  have go : ∀ {S T : List TK}, (∀ k, k ∈ S.map (·.2) → k ∈ T.map (·.2)) → x ∈ S.map (ordOf B) → x ∈ T.map (ordOf B) := fun {S T} g hx => by
    obtain ⟨p, hp, rfl⟩ := List.mem_map.mp hx
    obtain ⟨q, hq, e⟩ := List.mem_map.mp (g p.2 (List.mem_map.mpr ⟨p, hp, rfl⟩))
    refine List.mem_map.mpr ⟨q, hq, ?_⟩
    show TS.code B (q.2.map numK) = TS.code B (p.2.map numK)
    rw [show q.2 = p.2 from e]
  exact ⟨go fun k => (h k).mp, go fun k => (h k).mpr⟩
end Sg
namespace Wb
open PySem PySem.Spec PyProof.Rows L2
def topS (i : Nat) : Stmt := PySem.Challenge.pw_wardweb_k01_webs_made.main.body.getD i (.Pass ⟨0, 0, 0, 0⟩)
abbrev sBox : Stmt := topS 15
abbrev sTake : Stmt := topS 16
abbrev sOne : Stmt := topS 17
/-! ### the drawing box -/
def bxO (q : Addr) (i r k : Int) : HO := .lst [.ref q, .int i, .int r, .int k]
def Bx (H : Hp) (b q : Addr) : Prop := ∃ (ns : List Int) (i r k : Int), H b = some (bxO q i r k) ∧ H q = some (.lst (ns.map V.int)) ∧ 0 ≤ i ∧ 0 ≤ r ∧ 0 ≤ k ∧ k < 2147483563
/-- all but b stands as it stood -/
def Kp (b : Addr) (H H' : Hp) : Prop := ∀ c, c ≠ b → H' c = H c
theorem box_ne {H : Hp} {b q : Addr} {ns : List Int} {i r k : Int} (hb : H b = some (bxO q i r k)) (hq : H q = some (.lst (ns.map V.int))) : q ≠ b := fun e => by
  subst e
  rw [hb] at hq
  injection hq with hq
  injection hq with hq
  cases ns with
  | nil => cases hq
  | cons n r => cases hq
section
variable {P : Program} {w : World} {K : PySem.W.Frag} {mg : Str → Option Value} {base : Heap}
def spTake : Sp := fun vs H Q _ => ∃ (b q : Addr) (many : Int), vs = [.ref b, .int many] ∧ Bx H b q ∧ 0 < many ∧ many < 2 ^ 100 ∧ ∀ v H', 0 ≤ v → v < many → Bx H' b q → Kp b H H' → Q (.int v) H'
theorem scT : FnScope ["_law_box_here", "_law_many", "_law_cell", "_law_got", "_law_seed"] ["_law_box_here", "_law_many"] (defScope sTake) := ⟨rfl, rfl, rfl, by decide +kernel, rfl, by decide +kernel, by decide +kernel⟩
theorem ok_take {f : Addr} {fd : FuncData} (F : Fun K "_law_take" "_law_take" sTake f fd) (ml : mg "len" = none) : FnOk P w K mg base CX0 1 f fd ["_law_box_here", "_law_many"] spTake := by
  refine F.ok scT (fun vs H Q E h => ?_) (fun cdv A outer s H vs Q E hr h => ?_)
  · obtain ⟨b, q, many, rfl, _⟩ := h
    rfl
  · obtain ⟨b, q, many, rfl, ⟨ns, i, r, k, hb, hq, hi, hr0, hk, hk2⟩, hm, hm2, K1⟩ := h
    refine ⟨_, C8.pss_cut (ps_if (PW.pt (pw_and (pt_cmpR op_eq (pe_ix ix_list (pv 0) pe_int (fun _ _ => rfl)) pe_int (nomark _)) (pw_and1 (pt_cmpR op_lt (pe_ix ix_list (pv 0) pe_int (fun _ _ => rfl)) (pe_callB call_len_seq (by rfl) ml PySem.boot_len (pa_cons (pe_ix ix_list (pv 0) pe_int (fun _ _ => rfl)) pa_nil)) (nomark _)))))
        (pss_cons (ps_set (i := 2) scT.nd rfl (.inl rfl) (pe_ix ix_list (pe_ix ix_list (pv 0) pe_int (fun _ _ => rfl)) (pe_ix ix_list (pv 0) pe_int (fun _ _ => rfl)) (fun _ _ => rfl)))
        (pss_cons (ps_asg (pe_op op_add (pe_ix ix_list (pv 0) pe_int (fun _ _ => rfl)) pe_int) (pg_sub (pv 0) pe_int set_list))
        (pss_one (ps_if (pt_cmpR op_ge (pv 2) (pe_op op_pow pe_int pe_int) (nomark _))
          (pss_one (ps_asg (pv 2) (pg_sub (pv 0) pe_int set_list)))
          (pss_one (ps_asg (pe_op op_mod (pe_op op_add (pe_op op_add (pe_op op_mul (pe_ix ix_list (pv 0) pe_int (fun _ _ => rfl)) pe_int) (pe_op op_mul (pe_op op_mod (pv 2) pe_int) pe_int)) (pe_ix ix_list (pv 0) pe_int (fun _ _ => rfl))) pe_int) (pg_sub (pv 0) pe_int set_list))))))) pss_nil)
      (pss_cons (ps_if (pt_cmpR op_gt (pe_ix ix_list (pv 0) pe_int (fun _ _ => rfl)) pe_int (nomark _))
        (pss_cons (ps_set (i := 3) scT.nd rfl (.inl rfl) (pe_op op_mod (pe_ix ix_list (pv 0) pe_int (fun _ _ => rfl)) (pv 1)))
        (pss_cons (ps_asg (pe_op op_fdivW (pe_ix ix_list (pv 0) pe_int (fun _ _ => rfl)) (pv 1)) (pg_sub (pv 0) pe_int set_list))
        (pss_one (ps_ret (pv 3))))) pss_nil)
      (pss_cons (ps_set (i := 4) scT.nd rfl (.inl rfl) (pe_ix ix_list (pv 0) pe_int (fun _ _ => rfl)))
      (pss_cons (ps_asg (pe_op op_mod (pe_op op_add (pe_op op_add (pe_op op_mul (pv 4) (pv 4)) (pe_op op_mul (pv 4) pe_int)) pe_int) pe_int) (pg_sub (pv 0) pe_int set_list))
      (pss_one (ps_ret (pe_op op_mod (pe_op op_add (pe_op op_fdiv (pe_ix ix_list (pv 0) pe_int (fun _ _ => rfl)) pe_int) (pe_op op_mul (pe_op op_mod (pe_ix ix_list (pv 0) pe_int (fun _ _ => rfl)) pe_int) pe_int)) (pv 1))))))), ?_⟩
    refine ⟨fun σ' H' => ∃ y2 y3 y4 i' r' k', σ' = [some (.ref b), some (.int many), y2, y3, y4] ∧ H' = upd H b (bxO q i' r' k') ∧ 0 ≤ i' ∧ 0 ≤ r' ∧ 0 ≤ k' ∧ k' < 2147483563, ?_, ?_⟩
    · have own : H = upd H b (bxO q i r k) := by
        funext c
        by_cases e : c = b
        · rw [e, upd_same, hb]
        · rw [upd_ne e]
      refine ⟨_, rfl, b, _, 2, .int r, rfl, rfl, SqL.of hb, atI_nat (j := 2) rfl, rfl, _, rfl, ?_⟩
      refine ite2 (fun e1 => ?_) (fun e1 => ?_)
      · refine ⟨_, rfl, b, _, 1, .int i, rfl, rfl, SqL.of hb, atI_nat (j := 1) rfl, _, rfl, b, _, 0, .ref q, rfl, rfl, SqL.of hb, atI_nat (j := 0) rfl, q, _, rfl, .inl (SqL.of hq), _, _, rfl, rfl, _, rfl, ?_⟩
        refine ite2 (fun e2 => ?_) (fun e2 => ?_)
        · have hlt : i < ((ns.map V.int).length : Int) := of_decide_eq_true e2
          have hj : i.toNat < ns.length := by
            rw [List.length_map] at hlt
            omega
          have gi : atI (ns.map V.int) i = some (.int ns[i.toNat]) := at_of (j := i.toNat) (by omega) (by
            rw [List.getElem?_map, List.getElem?_eq_getElem hj]
            rfl)
          have nqb : q ≠ b := box_ne hb hq
          -- cell = box[0][box[1]]
          refine ⟨_, rfl, b, _, 0, .ref q, rfl, rfl, SqL.of hb, atI_nat (j := 0) rfl, _, rfl, b, _, 1, .int i, rfl, rfl, SqL.of hb, atI_nat (j := 1) rfl, q, _, i, _, rfl, rfl, SqL.of hq, gi, ?_⟩
          -- box[1] = box[1] + 1
          refine ⟨_, rfl, b, _, 1, .int i, rfl, rfl, SqL.of hb, atI_nat (j := 1) rfl, _, _, rfl, rfl, _, rfl, b, _, 1, 1, rfl, rfl, hb, rfl, ?_⟩
          refine ⟨_, rfl, 10, 18, rfl, rfl, ⟨by decide, by decide, by decide⟩, _, _, rfl, rfl, _, rfl, ?_⟩
          refine ite2 (fun e3 => ?_) (fun e3 => ?_)
          · have h3 : (10 : Int) ^ (18 : Int).toNat ≤ ns[i.toNat] := of_decide_eq_true e3
            refine ⟨_, rfl, _, rfl, b, _, 2, 2, rfl, rfl, upd_same, rfl, ?_⟩
            refine ⟨_, _, _, i + 1, ns[i.toNat], k, rfl, ?_, by omega, ?_, hk, hk2⟩
            · rw [upd_upd]
              rfl
            · have : (0 : Int) ≤ (10 : Int) ^ (18 : Int).toNat := by decide
              omega
          · refine ⟨_, rfl, b, _, 3, .int k, rfl, rfl, SqL.of upd_same, atI_nat (j := 3) rfl, k, 40692, rfl, rfl, .inr ⟨by decide, by decide⟩, _, rfl, _, 2147483563, rfl, rfl, (by show (0 : Int) < 2147483563; decide), _, 53, rfl, rfl, .inr ⟨by decide, by decide⟩, _, _, rfl, rfl, _, rfl, b, _, 1, .int (i + 1), rfl, rfl, SqL.of upd_same, atI_nat (j := 1) rfl, _, _, rfl, rfl, _, 2147483563, rfl, rfl, (by show (0 : Int) < 2147483563; decide), ?_⟩
            refine ⟨_, rfl, b, _, 3, 3, rfl, rfl, upd_same, rfl, ?_⟩
            refine ⟨_, _, _, i + 1, r, _, rfl, by rw [upd_upd]; rfl, by omega, hr0, Int.emod_nonneg _ (by decide), Int.emod_lt_of_pos _ (by decide)⟩
        · exact ⟨_, _, _, i, r, k, rfl, own, hi, hr0, hk, hk2⟩
      · exact ⟨_, _, _, i, r, k, rfl, own, hi, hr0, hk, hk2⟩
    · rintro σ' H' ⟨y2, y3, y4, i', r', k', rfl, rfl, hi', hr', hk', hk2'⟩
      have nqb : q ≠ b := box_ne hb hq
      have hq' : ∀ o, (upd H b o) q = some (.lst (ns.map V.int)) := fun o => by
        rw [upd_ne nqb]
        exact hq
      have kp : ∀ o, Kp b H (upd H b o) := fun o c hc => upd_ne hc
      refine ⟨_, rfl, b, _, 2, .int r', rfl, rfl, SqL.of upd_same, atI_nat (j := 2) rfl, _, _, rfl, rfl, _, rfl, ?_⟩
      refine ite2 (fun e1 => ?_) (fun e1 => ?_)
      · refine ⟨_, rfl, b, _, 2, .int r', rfl, rfl, SqL.of upd_same, atI_nat (j := 2) rfl, _, rfl, _, _, rfl, rfl, hm, ?_⟩
        refine ⟨_, rfl, b, _, 2, .int r', rfl, rfl, SqL.of upd_same, atI_nat (j := 2) rfl, _, rfl, _, _, rfl, rfl, wide_div (b := 100) hm (by omega) (by decide) (by decide), ?_⟩
        refine ⟨_, rfl, b, _, 2, 2, rfl, rfl, upd_same, rfl, _, rfl, ?_⟩
        rw [upd_upd]
        exact K1 _ _ (Int.emod_nonneg _ (by omega)) (Int.emod_lt_of_pos _ hm) ⟨ns, i', r' / many, k', upd_same, hq' _, hi', Int.ediv_nonneg hr' (by omega), hk', hk2'⟩ (kp _)
      · refine ⟨_, rfl, b, _, 3, .int k', rfl, rfl, SqL.of upd_same, atI_nat (j := 3) rfl, ?_⟩
        have hb1 : (-(2 ^ 64) < k' ∧ k' < 2 ^ 64) := ⟨by omega, by omega⟩
        refine ⟨_, rfl, _, rfl, _, _, rfl, rfl, .inl hb1, _, rfl, _, 39373, rfl, rfl, .inl hb1, _, _, rfl, rfl, _, 90001, rfl, rfl, _, 2147483563, rfl, rfl, (by show (0 : Int) < 2147483563; decide), ?_⟩
        refine ⟨_, rfl, b, _, 3, 3, rfl, rfl, upd_same, rfl, ?_⟩
        have z1 := Int.emod_nonneg (k' * k' + k' * 39373 + 90001) (show (2147483563 : Int) ≠ 0 by decide)
        have z2 := Int.emod_lt_of_pos (k' * k' + k' * 39373 + 90001) (show (0 : Int) < 2147483563 by decide)
        refine ⟨_, rfl, b, _, 3, _, rfl, rfl, SqL.of upd_same, atI_nat (j := 3) rfl, _, 59, rfl, rfl, ⟨by decide, by decide⟩, _, rfl, b, _, 3, _, rfl, rfl, SqL.of upd_same, atI_nat (j := 3) rfl, _, 8117, rfl, rfl, (by show (0 : Int) < 8117; decide), _, 211, rfl, rfl, .inr ⟨by decide, by decide⟩, _, _, rfl, rfl, _, rfl, _, _, rfl, rfl, hm, ?_⟩
        rw [upd_upd]
        exact K1 _ _ (Int.emod_nonneg _ (by omega)) (Int.emod_lt_of_pos _ hm) ⟨ns, i', r', _, upd_same, hq' _, hi', hr', z1, z2⟩ (kp _)
end
end Wb
namespace Wb
open PySem PySem.Spec PyProof.Rows L2
abbrev sHue : Stmt := topS 21
abbrev sArrow : Stmt := topS 23
theorem same_upd {H : Hp} {p : Addr} {o : HO} (h : H p = none) : Same H (upd H p o) := fun b x e => by
  rw [upd_ne (ne_of_none e h)]
  exact e
def Xt (b : Addr) (H H' : Hp) : Prop := ∀ c o, c ≠ b → H c = some o → H' c = some o
theorem Xt.refl (b : Addr) (H : Hp) : Xt b H H := fun _ _ _ h => h
theorem Xt.trans {b : Addr} {H H1 H2 : Hp} (x : Xt b H H1) (y : Xt b H1 H2) : Xt b H H2 := fun c o hc h => y c o hc (x c o hc h)
theorem Xt.new {b : Addr} {H H1 : Hp} {p : Addr} {o : HO} (x : Xt b H H1) (h : H1 p = none) : Xt b H (upd H1 p o) := fun c u hc e => by
  have q := x c u hc e
  rw [upd_ne (ne_of_none q h)]
  exact q
theorem Kp.xt {b : Addr} {H H' : Hp} (x : Kp b H H') : Xt b H H' := fun c o hc h => by
  rw [x c hc]
  exact h
theorem Same.xt {b : Addr} {H H' : Hp} (x : Same H H') : Xt b H H' := fun c o _ h => x c o h
theorem Bx.some {H : Hp} {b q : Addr} (x : Bx H b q) : ∃ o, H b = some o := by
  obtain ⟨ns, i, r, k, hb, _⟩ := x
  exact ⟨_, hb⟩
theorem Bx.new {H : Hp} {b q p : Addr} {o : HO} (x : Bx H b q) (h : H p = none) : Bx (upd H p o) b q := by
  obtain ⟨ns, i, r, k, hb, hq, z⟩ := x
  exact ⟨ns, i, r, k, by rw [upd_ne (ne_of_none hb h)]; exact hb, by rw [upd_ne (ne_of_none hq h)]; exact hq, z⟩
theorem Xt.free {b : Addr} {H H' : Hp} (x : Xt b H H') {p : Addr} (hb : p ≠ b) (h : H' p = none) : H p = none := by
  cases e : H p with
  | none => rfl
  | some o =>
    rw [x p o hb e] at h
    cases h
theorem Bx.ne {H : Hp} {b q p : Addr} (x : Bx H b q) (h : H p = none) : p ≠ b := fun e => by
  obtain ⟨o, ho⟩ := x.some
  rw [e, ho] at h
  cases h
theorem Bx.neq {H : Hp} {b q p : Addr} (x : Bx H b q) (h : H p = none) : p ≠ q := fun e => by
  obtain ⟨ns, i, r, k, hb, hq, _⟩ := x
  rw [e, hq] at h
  cases h
theorem Bx.upd {H : Hp} {b q p : Addr} {o : HO} (x : Bx H b q) (h1 : p ≠ b) (h2 : p ≠ q) : Bx (upd H p o) b q := by
  obtain ⟨ns, i, r, k, hb, hq, z⟩ := x
  exact ⟨ns, i, r, k, by rw [upd_ne h1.symm]; exact hb, by rw [upd_ne h2.symm]; exact hq, z⟩
theorem sum_ones : ∀ ys : List Str, (∀ y ∈ ys, y.length = 1) → (ys.map (·.length)).sum = ys.length
  | [], _ => rfl
  | y :: r, h => by
    rw [List.map_cons, List.sum_cons, sum_ones r fun z hz => h z (List.mem_cons_of_mem _ hz), h y List.mem_cons_self, List.length_cons]
    omega
/-- a list other than the box stays one -/
theorem Xt.sql {K : PySem.W.Frag} {b : Addr} {H H' : Hp} (x : Xt b H H') {p : Addr} (hb : p ≠ b) {xs : List V} (h : SqL K H p xs) : SqL K H' p xs := by
  rcases h with (h | ⟨o, h⟩) | h
  · exact .inl (.inl (x _ _ hb h))
  · exact .inl (.inr ⟨o, x _ _ hb h⟩)
  · exact .inr h
theorem cut63 {xs : List V} (h : xs.length ≤ 63) : cutV xs none (some 63) = xs := by
  unfold cutV
  rw [HT.sIx_none, show HT.sIx xs.length xs.length (some 63) = min 63 xs.length from HT.sIx_nat xs.length xs.length 63, List.drop_zero, Nat.sub_zero, show min 63 xs.length = xs.length by omega, List.take_length]
section
variable {P : Program} {w : World} {K : PySem.W.Frag} {mg : Str → Option Value} {base : Heap}
/-! ### the box made -/
def spBox (K : PySem.W.Frag) : Sp := fun vs H Q _ => ∃ (a : Addr) (ns : List Int), vs = [.ref a] ∧ SqL K H a (ns.map V.int) ∧ ns.length ≤ 63 ∧ ∀ p q H', H p = none → Bx H' p q → Same H H' → Q (.ref p) H'
theorem scB : FnScope ["_law_script", "_law_knot", "_law_cell"] ["_law_script"] (defScope sBox) := ⟨rfl, rfl, rfl, by decide +kernel, rfl, by decide +kernel, by decide +kernel⟩
theorem ok_box {f : Addr} {fd : FuncData} (F : Fun K "_law_box" "_law_box" sBox f fd) (ml : mg "len" = none) (mli : mg "list" = none) : FnOk P w K mg base CX0 1 f fd ["_law_script"] (spBox K) := by
  refine F.ok scB (fun vs H Q E h => ?_) (fun cdv A outer s H vs Q E hr h => ?_)
  · obtain ⟨a, ns, rfl, _⟩ := h
    rfl
  · obtain ⟨a, ns, rfl, hS, hlen, K1⟩ := h
    refine ⟨_, pss_cons (ps_set (i := 1) scB.nd rfl (.inl rfl) (pe_op op_add pe_int (pe_op op_mul pe_int (pe_callB call_len_seq (by rfl) ml PySem.boot_len (pa_cons (pe_slice sl_list (pv 0) po_none (po_some pe_int)) pa_nil)))))
      (pss_cons (ps_for PassesOwn.never rfl (pi_list (pe_slice sl_list (pv 0) po_none (po_some pe_int))) (pg_name (i := 2) scB.nd rfl (.inl rfl))
        (pss_one (ps_set (i := 1) scB.nd rfl (.inl rfl) (pe_op op_mod (pe_op op_add (pe_op op_add (pe_op op_mul (pv 1) pe_int) (pe_op op_mod (pv 2) pe_int)) pe_int) pe_int))))
      (pss_one (ps_ret (pe_lst (pa_cons (pe_callTy call_list_of (by rfl) mli boot_list (pa_cons (pe_slice sl_list (pv 0) po_none (po_some pe_int)) pa_nil)) (pa_cons pe_int (pa_cons pe_int (pa_cons (pv 1) pa_nil)))))))), ?_⟩
    have hL : (ns.map V.int).length ≤ 63 := by
      rw [List.length_map]
      exact hlen
    -- the first slice, its length
    refine ⟨_, rfl, 63, rfl, a, _, rfl, hS, fun p1 n1 => ?_⟩
    have s1 : Same H (upd H p1 (.lst (cutV (ns.map V.int) none (some 63)))) := same_upd n1
    refine ⟨p1, _, rfl, .inl (SqL.of upd_same), 61, _, rfl, rfl, .inl ⟨by decide, by decide⟩, 9147, _, rfl, rfl, ?_⟩
    generalize hH1 : upd H p1 (.lst (cutV (ns.map V.int) none (some 63))) = H1 at s1 ⊢
    -- the second slice, the loop
    refine ⟨_, rfl, 63, rfl, a, _, rfl, s1.seq hS, fun p2 n2 => ?_⟩
    have s2 : Same H1 (upd H1 p2 (.lst (cutV (ns.map V.int) none (some 63)))) := same_upd n2
    rw [cut63 hL] at s2 ⊢
    have e2 : (upd H1 p2 (.lst (ns.map V.int))) p2 = some (.lst (ns.map V.int)) := upd_same
    generalize upd H1 p2 (.lst (ns.map V.int)) = H2 at s2 e2 ⊢
    refine ⟨p2, rfl, ⟨_, SqL.of e2⟩, for_list (xs := ns.map V.int) (fun i σ H' => ∃ k y, σ = [some (.ref a), some (.int k), y] ∧ H' = H2 ∧ 0 ≤ k ∧ k < 2147483563) ?_ ?_ ?_ ?_⟩
    · refine ⟨_, _, rfl, rfl, ?_, ?_⟩
      · omega
      · omega
    · rintro i σ H' _ ⟨k, y, _, rfl, _⟩
      exact SqL.of e2
    · rintro i x σ H' hx ⟨k, y, rfl, rfl, hk0, hk1⟩
      obtain ⟨z, rfl⟩ : ∃ z, x = V.int z := by
        rw [List.getElem?_map] at hx
        cases e : ns[i]? with
        | none =>
          rw [e] at hx
          cases hx
        | some z =>
          rw [e] at hx
          exact ⟨z, (Option.some.inj hx).symm⟩
      refine ⟨_, rfl, k, 40014, rfl, rfl, .inr ⟨by decide, by decide⟩, _, rfl, z, 2147483563, rfl, rfl, (by show (0 : Int) < 2147483563; decide), _, _, rfl, rfl, _, 7, rfl, rfl, _, 2147483563, rfl, rfl, (by show (0 : Int) < 2147483563; decide), ?_⟩
      exact ⟨_, _, rfl, rfl, Int.emod_nonneg _ (by decide), Int.emod_lt_of_pos _ (by decide)⟩
    · rintro σ H' ⟨k, y, rfl, rfl, hk0, hk1⟩
      -- the end
      refine ⟨_, rfl, 63, rfl, a, _, rfl, s2.seq (s1.seq hS), fun p3 n3 => ?_⟩
      have s3 : Same H' (upd H' p3 (.lst (cutV (ns.map V.int) none (some 63)))) := same_upd n3
      rw [cut63 hL] at s3 ⊢
      have e3 : (upd H' p3 (.lst (ns.map V.int))) p3 = some (.lst (ns.map V.int)) := upd_same
      generalize upd H' p3 (.lst (ns.map V.int)) = H3 at s3 e3 ⊢
      refine ⟨p3, _, rfl, .inl (SqL.of e3), fun p4 n4 => ?_⟩
      have s4 : Same H3 (upd H3 p4 (.lst (ns.map V.int))) := same_upd n4
      have e4 : (upd H3 p4 (.lst (ns.map V.int))) p4 = some (.lst (ns.map V.int)) := upd_same
      generalize upd H3 p4 (.lst (ns.map V.int)) = H4 at s4 e4 ⊢
      refine ⟨_, rfl, by show 4 ≤ sizeLine; decide, fun p5 n5 => ?_⟩
      have s5 := ((s1.trans s2).trans s3).trans s4
      exact K1 p5 p4 _ (s5.free n5) ⟨ns, 0, 0, k, upd_same, by rw [upd_ne (ne_of_none e4 n5)]; exact e4, by decide, by decide, hk0, hk1⟩ (s5.trans (same_upd n5))
/-! ### one of some -/
def spOne (K : PySem.W.Frag) : Sp := fun vs H Q _ =>
  (∃ (b q p : Addr) (xs : List V), vs = [.ref b, .ref p] ∧ Bx H b q ∧ SqL K H p xs ∧ p ≠ b ∧ xs ≠ [] ∧ xs.length ≤ 1000 ∧ ∀ v H', v ∈ xs → Bx H' b q → Kp b H H' → Q v H') ∨
  (∃ (b q : Addr) (z : Str), vs = [.ref b, .str z] ∧ Bx H b q ∧ 0 < z.length ∧ z.length ≤ 1000 ∧ ∀ c H', c ∈ z.cps.toList → Bx H' b q → Kp b H H' → Q (.str ⟨#[c]⟩) H')
theorem scO : FnScope ["_law_box_here", "_law_some"] ["_law_box_here", "_law_some"] (defScope sOne) := ⟨rfl, rfl, rfl, by decide +kernel, rfl, by decide +kernel, by decide +kernel⟩
/-- what callers hold of a def -/
structure Df (P : Program) (w : World) (K : PySem.W.Frag) (mg : Str → Option Value) (base : Heap) (k : Nat) (x : Str) (ps : List Str) (sp : Sp) (f : Addr) (fd : FuncData) : Prop where
  ok : FnOk P w K mg base CX0 k f fd ps sp
  gl : mg x = some (.ref f)
  kp : PySem.W.keepIn K (.ref f) = true
  bd : Binds K fd ps []
theorem ok_one {f fT : Addr} {fd fdT : FuncData} (F : Fun K "_law_one" "_law_one" sOne f fd) (ml : mg "len" = none) (T : Df P w K mg base 1 "_law_take" ["_law_box_here", "_law_many"] spTake fT fdT) : FnOk P w K mg base CX0 2 f fd ["_law_box_here", "_law_some"] (spOne K) := by
  refine F.ok scO (fun vs H Q E h => ?_) (fun cdv A outer s H vs Q E hr h => ?_)
  · rcases h with ⟨b, q, p, xs, rfl, _⟩ | ⟨b, q, z, rfl, _⟩ <;> rfl
  · rcases h with ⟨b, q, p, xs, rfl, B, hS, hp, h0, hl, K1⟩ | ⟨b, q, z, rfl, B, h0, hl, K1⟩
    · refine ⟨_, pss_one (ps_ret (pe_ix ix_list (pv 1) (pe_call T.ok hr (by rfl) T.gl T.kp T.bd .nil pass0 (pa_cons (pv 0) (pa_cons (pe_callB call_len_seq (by rfl) ml PySem.boot_len (pa_cons (pv 1) pa_nil)) pa_nil))) (fun _ _ => rfl))), ?_⟩
      have h1 : 0 < xs.length := List.length_pos_iff.mpr h0
      refine ⟨_, rfl, _, rfl, _, rfl, p, _, rfl, .inl hS, b, q, (xs.length : Int), rfl, B, by omega, by omega, fun v H' v0 v1 B' kp => ?_⟩
      have hj : v.toNat < xs.length := by omega
      refine ⟨p, xs, v, xs[v.toNat], rfl, rfl, kp.xt.sql hp hS, at_of (j := v.toNat) (by omega) (List.getElem?_eq_getElem hj), ?_⟩
      exact K1 _ _ (List.getElem_mem hj) B' kp
    · refine ⟨_, pss_one (ps_ret (pe_ix ix_str (pv 1) (pe_call T.ok hr (by rfl) T.gl T.kp T.bd .nil pass0 (pa_cons (pv 0) (pa_cons (pe_callB call_len (by rfl) ml PySem.boot_len (pa_cons (pv 1) pa_nil)) pa_nil))) (fun _ _ => rfl))), ?_⟩
      have hz : z.length ≤ sizeLine := Nat.le_of_lt (small1000 hl)
      refine ⟨_, rfl, _, rfl, _, rfl, _, z.length, rfl, ⟨hz, rfl⟩, b, q, (z.length : Int), rfl, B, by omega, by omega, fun v H' v0 v1 B' kp => ?_⟩
      obtain ⟨j, rfl⟩ : ∃ j : Nat, v = (j : Int) := ⟨v.toNat, by omega⟩
      have hj : j < z.cps.toList.length := by
        rw [Array.length_toList]
        have : z.length = z.cps.size := rfl
        omega
      refine ⟨z, (j : Int), z.cps.toList[j], rfl, rfl, hz, atI_nat (List.getElem?_eq_getElem hj), ?_⟩
      exact K1 _ _ (List.getElem_mem hj) B' kp
/-! ### a colour -/
def spHue : Sp := fun vs H Q _ => ∃ b q, vs = [.ref b] ∧ Bx H b q ∧ ∀ (c : Str) H', c ∈ (["a", "b", "c"] : List Str) → Bx H' b q → Xt b H H' → Q (.str c) H'
theorem scH : FnScope ["_law_box_here"] ["_law_box_here"] (defScope sHue) := ⟨rfl, rfl, rfl, by decide +kernel, rfl, by decide +kernel, by decide +kernel⟩
theorem ok_hue {f fO : Addr} {fd fdO : FuncData} (F : Fun K "_law_hue" "_law_hue" sHue f fd) (O : Df P w K mg base 2 "_law_one" ["_law_box_here", "_law_some"] (spOne K) fO fdO) : FnOk P w K mg base CX0 3 f fd ["_law_box_here"] spHue := by
  refine F.ok scH (fun vs H Q E h => ?_) (fun cdv A outer s H vs Q E hr h => ?_)
  · obtain ⟨b, q, rfl, _⟩ := h
    rfl
  · obtain ⟨b, q, rfl, B, K1⟩ := h
    refine ⟨_, pss_one (ps_ret (pe_call O.ok hr (by rfl) O.gl O.kp O.bd .nil pass0 (pa_cons (pv 0) (pa_cons (pe_lst (pa_cons pe_str (pa_cons pe_str (pa_cons pe_str (pa_cons pe_str (pa_cons pe_str (pa_cons pe_str pa_nil))))))) pa_nil)))), ?_⟩
    refine ⟨_, rfl, by show 6 ≤ sizeLine; decide, fun p np => ?_⟩
    refine .inl ⟨b, q, p, _, rfl, B.new np, SqL.of upd_same, B.ne np, by simp, by show 6 ≤ 1000; decide, fun v H' hv B' kp => ?_⟩
    obtain ⟨c, rfl, hc⟩ : ∃ c : Str, v = .str c ∧ c ∈ (["a", "b", "c"] : List Str) := by
      simp only [List.mem_cons, List.not_mem_nil, or_false] at hv
      rcases hv with rfl | rfl | rfl | rfl | rfl | rfl
      all_goals exact ⟨_, rfl, by simp⟩
    exact K1 c H' hc B' (((Xt.refl b H).new np).trans kp.xt)
/-! ### an arrow -/
def spArrow : Sp := fun vs H Q _ => ∃ (b q : Addr) (m : Int), vs = [.ref b, .int m] ∧ Bx H b q ∧ 0 < m ∧ m < 2 ^ 100 ∧
  ∀ (p : Addr) (c : Str) (x y : Int) H', H p = none → p ≠ b → H' p = some (.tup [.str c, .int x, .int y]) → c ∈ (["a", "b", "c"] : List Str) → 0 ≤ x → x < m → 0 ≤ y → y < m → Bx H' b q → Xt b H H' → Q (.ref p) H'
theorem scA : FnScope ["_law_box_here", "_law_many"] ["_law_box_here", "_law_many"] (defScope sArrow) := ⟨rfl, rfl, rfl, by decide +kernel, rfl, by decide +kernel, by decide +kernel⟩
theorem ok_arrow {f fH fT : Addr} {fd fdH fdT : FuncData} (F : Fun K "_law_arrow" "_law_arrow" sArrow f fd) (G : Df P w K mg base 3 "_law_hue" ["_law_box_here"] spHue fH fdH) (T : Df P w K mg base 1 "_law_take" ["_law_box_here", "_law_many"] spTake fT fdT) : FnOk P w K mg base CX0 4 f fd ["_law_box_here", "_law_many"] spArrow := by
  refine F.ok scA (fun vs H Q E h => ?_) (fun cdv A outer s H vs Q E hr h => ?_)
  · obtain ⟨b, q, m, rfl, _⟩ := h
    rfl
  · obtain ⟨b, q, m, rfl, B, hm, hm2, K1⟩ := h
    refine ⟨_, pss_one (ps_ret (pe_tup (pa_cons (pe_call G.ok hr (by rfl) G.gl G.kp G.bd .nil pass0 (pa_cons (pv 0) pa_nil)) (pa_cons (pe_call T.ok (hr.mono (by decide)) (by rfl) T.gl T.kp T.bd .nil pass0 (pa_cons (pv 0) (pa_cons (pv 1) pa_nil))) (pa_cons (pe_call T.ok (hr.mono (by decide)) (by rfl) T.gl T.kp T.bd .nil pass0 (pa_cons (pv 0) (pa_cons (pv 1) pa_nil))) pa_nil))))), ?_⟩
    refine ⟨_, rfl, b, q, rfl, B, fun c H1 hc B1 x1 => ?_⟩
    refine ⟨_, rfl, _, rfl, b, q, m, rfl, B1, hm, hm2, fun x H2 a1 a2 B2 k2 => ?_⟩
    refine ⟨_, rfl, _, rfl, b, q, m, rfl, B2, hm, hm2, fun y H3 c1 c2 B3 k3 => ?_⟩
    refine ⟨by show 3 ≤ sizeLine; decide, fun p np => ?_⟩
    have xt := (x1.trans k2.xt).trans k3.xt
    exact K1 p c x y _ (xt.free (B3.ne np) np) (B3.ne np) upd_same hc a1 a2 c1 c2 (B3.new np) (xt.new np)
end
end Wb
namespace Wb
open PySem PySem.Spec PyProof.Rows L2 RZ
abbrev sSame : Stmt := topS 19
def scV : V → Bool
  | .non => true
  | .bl _ => true
  | .int _ => true
  | .str _ => true
  | _ => false
/-- both are the same data, at most n deep -/
def Sv (K : PySem.W.Frag) (H : Hp) : Nat → V → V → Prop
  | 0, x, y => scV x = true ∧ x = y
  | n + 1, x, y => (scV x = true ∧ x = y) ∨ ∃ (p q : Addr) (xs ys : List V), x = .ref p ∧ y = .ref q ∧ ((SqL K H p xs ∧ SqL K H q ys) ∨ (SqT K H p xs ∧ SqT K H q ys)) ∧ xs.length ≤ 100000 ∧ Paired (Sv K H n) xs ys
theorem Sv.same {K : PySem.W.Frag} {H H' : Hp} (s : Same H H') : ∀ (n : Nat) (x y : V), Sv K H n x y → Sv K H' n x y
  | 0, _, _, h => h
  | n + 1, x, y, h => by
    rcases h with h | ⟨p, q, xs, ys, e1, e2, h, hl, r⟩
    · exact .inl h
    · refine .inr ⟨p, q, xs, ys, e1, e2, ?_, hl, Paired.mapP r fun a b => Sv.same s n a b⟩
      rcases h with ⟨h1, h2⟩ | ⟨h1, h2⟩
      · exact .inl ⟨s.seq h1, s.seq h2⟩
      · refine .inr ⟨?_, ?_⟩
        · rcases h1 with (h | ⟨o, h⟩) | h
          · exact .inl (.inl (s _ _ h))
          · exact .inl (.inr ⟨o, s _ _ h⟩)
          · exact .inr h
        · rcases h2 with (h | ⟨o, h⟩) | h
          · exact .inl (.inl (s _ _ h))
          · exact .inl (.inr ⟨o, s _ _ h⟩)
          · exact .inr h
theorem same_tup {K : PySem.W.Frag} {H H' : Hp} {a : Addr} {xs : List V} (e : Same H H') (h : SqT K H a xs) : SqT K H' a xs := by
  rcases h with (h | ⟨o, h⟩) | h
  · exact .inl (.inl (e _ _ h))
  · exact .inl (.inr ⟨o, e _ _ h⟩)
  · exact .inr h
theorem ty_list {K : PySem.W.Frag} {H : Hp} {p : Addr} {xs : List V} (h : SqL K H p xs) : TyX K H (.ref p) (.type "list") := by
  rcases h with (h | ⟨o, h⟩) | ⟨o, its, n, h, hc, _⟩
  · exact .base (.lst h)
  · exact .base (.frz h)
  · exact .kList h hc
theorem ty_tup {K : PySem.W.Frag} {H : Hp} {p : Addr} {xs : List V} (h : SqT K H p xs) : TyX K H (.ref p) (.type "tuple") := by
  rcases h with (h | ⟨o, h⟩) | ⟨o, its, n, h, hc, _⟩
  · exact .base (.tup h)
  · exact .fTuple h
  · exact .kTuple h hc
theorem walk_zipT {K : PySem.W.Frag} {a b : Addr} {xs ys : List V} {n : Nat} (hn : n = min xs.length ys.length) : Walk (ItzT K a b) n (fun H => SqT K H a xs ∧ SqT K H b ys) (YPair (fun i => xs[i]?) (fun i => ys[i]?)) where
  goes := fun i H hi g => ⟨xs, ys, xs[i]'(by omega), ys[i]'(by omega), g.1, g.2, List.getElem?_eq_getElem _, List.getElem?_eq_getElem _⟩
  stops := fun H g => ⟨xs, ys, g.1, g.2, by omega⟩
  yields := fun i H v H' hi g y => by
    obtain ⟨T, x, z, e, nT, eH, h1, h2⟩ := y
    exact ⟨T, x, z, e, nT, eH, h1 _ g.1, h2 _ g.2⟩
theorem paired_at {α β : Type} {F : α → β → Prop} : ∀ {l : List α} {m : List β}, Paired F l m → ∀ (i : Nat) (x : α) (y : β), l[i]? = some x → m[i]? = some y → F x y
  | _, _, .nil, i, _, _, h, _ => by simp at h
  | _, _, .cons r _, 0, x, y, h1, h2 => by
    cases h1
    cases h2
    exact r
  | _, _, .cons _ t, i + 1, x, y, h1, h2 => paired_at t i x y h1 h2
section
variable {P : Program} {w : World} {K : PySem.W.Frag} {mg : Str → Option Value} {base : Heap}
def spSame (K : PySem.W.Frag) (n : Nat) : Sp := fun vs H Q _ => ∃ x y, vs = [x, y] ∧ Sv K H n x y ∧ ∀ H', Same H H' → Q (.bl true) H'
theorem scS : FnScope ["_law_found", "_law_due", "_law_one_here", "_law_other"] ["_law_found", "_law_due"] (defScope sSame) := ⟨rfl, rfl, rfl, by decide +kernel, rfl, by decide +kernel, by decide +kernel⟩
structure SmT (mg : Str → Option Value) : Prop where
  isi : mg "isinstance" = none
  lst : mg "list" = none
  tup : mg "tuple" = none
  bool : mg "bool" = none
  int : mg "int" = none
  str : mg "str" = none
  len : mg "len" = none
  all : mg "all" = none
  zip : mg "zip" = none
/-- a plain value against itself -/
theorem same_plain {n k : Nat} {f : Addr} {fd : FuncData} {cdv : Value} {A : Around} {outer : List Env} {s : Shared} {H : Hp} {Q : VK} {E : XK} (M : SmT mg) {v : V} {t : String} {b1 b2 b3 : Bool} (nn : v ≠ .non) (ty : TyX K H v (.type t)) (sc : scal v v = true)
    (k1 : kitB t "list" = some false) (k2 : kitB t "tuple" = some false) (k3 : kitB t "bool" = some b1) (k4 : kitB t "int" = some b2) (k5 : kitB t "str" = some b3) (q : Q (.bl true) H) :
    ∃ tt, PSs (cxOf CX0 P w K mg base ["_law_found", "_law_due", "_law_one_here", "_law_other"] "_law_same" (defScope sSame) f cdv A outer s H E).nox (defBody sSame) tt ∧ tt { nx := fun _ H' => Q .non H', rt := Q } (start ["_law_found", "_law_due", "_law_one_here", "_law_other"] [v, v]) H := by
  refine ⟨_, pss_cons (ps_if (pt_cmpR op_isN (pv 1) pe_non (nomark _)) (pss_one ps_never) pss_nil)
    (pss_cons (ps_if (PW.pt (pw_or (pt_val (pe_callB call_isi (by rfl) M.isi boot_isinstance (pa_cons (pv 1) (pa_cons (pe_bltn (v := .ty "list") (by rfl) M.lst (by decide +kernel) rfl) pa_nil)))) (pw_or1 (pt_val (pe_callB call_isi (by rfl) M.isi boot_isinstance (pa_cons (pv 1) (pa_cons (pe_bltn (v := .ty "tuple") (by rfl) M.tup (by decide +kernel) rfl) pa_nil))))))) (pss_cons ps_never (pss_one ps_never)) pss_nil)
    (pss_cons (ps_if (PW.pt (pw_or (pt_cmpR op_ne (pe_callB call_isi (by rfl) M.isi boot_isinstance (pa_cons (pv 1) (pa_cons (pe_bltn (v := .ty "bool") (by rfl) M.bool (by decide +kernel) rfl) pa_nil))) (pe_callB call_isi (by rfl) M.isi boot_isinstance (pa_cons (pv 0) (pa_cons (pe_bltn (v := .ty "bool") (by rfl) M.bool (by decide +kernel) rfl) pa_nil))) (nomark _)) (pw_or1 (pt_cmpR op_ne (pe_callB call_isi (by rfl) M.isi boot_isinstance (pa_cons (pv 1) (pa_cons (pe_bltn (v := .ty "int") (by rfl) M.int (by decide +kernel) rfl) pa_nil))) (pe_callB call_isi (by rfl) M.isi boot_isinstance (pa_cons (pv 0) (pa_cons (pe_bltn (v := .ty "int") (by rfl) M.int (by decide +kernel) rfl) pa_nil))) (nomark _))))) (pss_one ps_never) pss_nil)
    (pss_one (ps_ret (pe_and (pe_cmpR op_eq (pe_callB call_isi (by rfl) M.isi boot_isinstance (pa_cons (pv 0) (pa_cons (pe_bltn (v := .ty "str") (by rfl) M.str (by decide +kernel) rfl) pa_nil))) (pe_callB call_isi (by rfl) M.isi boot_isinstance (pa_cons (pv 1) (pa_cons (pe_bltn (v := .ty "str") (by rfl) M.str (by decide +kernel) rfl) pa_nil))) (nomark _)) (pe_one (pe_cmpR op_eq (pv 0) (pv 1) (nomark _)))))))), ?_⟩
  refine ⟨_, rfl, rfl, _, rfl, ite2 (fun e => absurd (of_decide_eq_true e) nn) fun _ => ?_⟩
  refine ⟨_, rfl, v, _, _, _, _, rfl, .ty "list", ty, kit_ty k1, _, rfl, iteF ?_⟩
  refine ⟨_, rfl, v, _, _, _, _, rfl, .ty "tuple", ty, kit_ty k2, _, rfl, iteF ?_⟩
  refine ⟨_, rfl, v, _, _, _, _, rfl, .ty "bool", ty, kit_ty k3, _, rfl, v, _, _, _, _, rfl, .ty "bool", ty, kit_ty k3, rfl, _, rfl, ?_⟩
  refine iteNS rfl ?_
  refine ⟨_, rfl, v, _, _, _, _, rfl, .ty "int", ty, kit_ty k4, _, rfl, v, _, _, _, _, rfl, .ty "int", ty, kit_ty k4, rfl, _, rfl, ?_⟩
  refine iteNS rfl ?_
  refine ⟨_, rfl, v, _, _, _, _, rfl, .ty "str", ty, kit_ty k5, _, rfl, v, _, _, _, _, rfl, .ty "str", ty, kit_ty k5, rfl, true, ?_, ?_⟩
  · rw [decide_eq_true rfl]
  · refine iteT ⟨_, rfl, _, rfl, sc, ?_⟩
    rw [decide_eq_true rfl]
    exact q
/-- a plain value against itself, any -/
theorem same_any {f : Addr} {fd : FuncData} {cdv : Value} {A : Around} {outer : List Env} {s : Shared} {H : Hp} {Q : VK} {E : XK} (M : SmT mg) {v : V} (hs : scV v = true) (q : Q (.bl true) H) :
    ∃ tt, PSs (cxOf CX0 P w K mg base ["_law_found", "_law_due", "_law_one_here", "_law_other"] "_law_same" (defScope sSame) f cdv A outer s H E).nox (defBody sSame) tt ∧ tt { nx := fun _ H' => Q .non H', rt := Q } (start ["_law_found", "_law_due", "_law_one_here", "_law_other"] [v, v]) H := by
  cases v with
  | non =>
    refine ⟨_, pss_cons (ps_if (pt_cmpR op_isN (pv 1) pe_non (nomark _)) (pss_one (ps_ret (pe_cmpR op_isN (pv 0) pe_non (nomark _)))) pss_nil) (pss_cons ps_never (pss_cons ps_never (pss_one ps_never))), ?_⟩
    exact ⟨_, rfl, rfl, _, rfl, iteT ⟨_, rfl, rfl, q⟩⟩
  | bl b => exact same_plain (n := 0) (k := 0) (fd := fd) (b1 := true) (b2 := true) (b3 := false) M (fun z => nomatch z) (.base (.bl b)) rfl (by decide +kernel) (by decide +kernel) (by decide +kernel) (by decide +kernel) (by decide +kernel) q
  | int i => exact same_plain (n := 0) (k := 0) (fd := fd) (b1 := false) (b2 := true) (b3 := false) M (fun z => nomatch z) (.base (.int i)) rfl (by decide +kernel) (by decide +kernel) (by decide +kernel) (by decide +kernel) (by decide +kernel) q
  | str z => exact same_plain (n := 0) (k := 0) (fd := fd) (b1 := false) (b2 := false) (b3 := true) M (fun z => nomatch z) (.base (.str z)) rfl (by decide +kernel) (by decide +kernel) (by decide +kernel) (by decide +kernel) (by decide +kernel) q
  | byt _ => cases hs
  | flt _ => cases hs
  | ref _ => cases hs
  | ty _ => cases hs
theorem ok_same {f : Addr} {fd : FuncData} (F : Fun K "_law_same" "_law_same" sSame f fd) (gl : mg "_law_same" = some (.ref f)) (bd : Binds K fd ["_law_found", "_law_due"] []) (M : SmT mg) : ∀ n, FnOk P w K mg base CX0 (n + 1) f fd ["_law_found", "_law_due"] (spSame K n) := by
  intro n
  induction n with
  | zero =>
    refine F.ok scS (fun vs H Q E h => ?_) (fun cdv A outer s H vs Q E hr h => ?_)
    · obtain ⟨x, y, rfl, _⟩ := h
      rfl
    · obtain ⟨x, y, rfl, ⟨hs, rfl⟩, q⟩ := h
      exact same_any (fd := fd) M hs (q _ (Same.refl _))
  | succ n ih =>
    refine F.ok scS (fun vs H Q E h => ?_) (fun cdv A outer s H vs Q E hr h => ?_)
    · obtain ⟨x, y, rfl, _⟩ := h
      rfl
    · obtain ⟨x, y, rfl, hs, q⟩ := h
      rcases hs with ⟨hs, rfl⟩ | ⟨p1, p2, xs, ys, rfl, rfl, hS, hl, pr⟩
      · exact same_any (fd := fd) M hs (q _ (Same.refl _))
      · -- two lists, or two tuples
        have hlen : xs.length = ys.length := Paired.length pr
        refine ⟨_, pss_cons (ps_if (pt_cmpR op_isN (pv 1) pe_non (nomark _)) (pss_one ps_never) pss_nil)
          (pss_cons (ps_if (PW.pt (pw_or (pt_val (pe_callB call_isi (by rfl) M.isi boot_isinstance (pa_cons (pv 1) (pa_cons (pe_bltn (v := .ty "list") (by rfl) M.lst (by decide +kernel) rfl) pa_nil)))) (pw_or1 (pt_val (pe_callB call_isi (by rfl) M.isi boot_isinstance (pa_cons (pv 1) (pa_cons (pe_bltn (v := .ty "tuple") (by rfl) M.tup (by decide +kernel) rfl) pa_nil)))))))
            (pss_cons (ps_if (PW.pt (pw_or (pt_cmpR op_ne (pe_callB call_isi (by rfl) M.isi boot_isinstance (pa_cons (pv 0) (pa_cons (pe_bltn (v := .ty "list") (by rfl) M.lst (by decide +kernel) rfl) pa_nil))) (pe_callB call_isi (by rfl) M.isi boot_isinstance (pa_cons (pv 1) (pa_cons (pe_bltn (v := .ty "list") (by rfl) M.lst (by decide +kernel) rfl) pa_nil))) (nomark _)) (pw_or1 (pt_cmpR op_ne (pe_callB call_isi (by rfl) M.isi boot_isinstance (pa_cons (pv 0) (pa_cons (pe_bltn (v := .ty "tuple") (by rfl) M.tup (by decide +kernel) rfl) pa_nil))) (pe_callB call_isi (by rfl) M.isi boot_isinstance (pa_cons (pv 1) (pa_cons (pe_bltn (v := .ty "tuple") (by rfl) M.tup (by decide +kernel) rfl) pa_nil))) (nomark _))))) (pss_one ps_never) pss_nil)
            (pss_one (ps_ret (pe_and (pe_cmpR op_eq (pe_callB call_len_seq (by rfl) M.len PySem.boot_len (pa_cons (pv 0) pa_nil)) (pe_callB call_len_seq (by rfl) M.len PySem.boot_len (pa_cons (pv 1) pa_nil)) (nomark _))
              (pe_one (pe_callB (cr_all rfl) (by rfl) M.all (by decide +kernel) (pa_cons
                (pe_lc (own := [("_law_one_here", 2), ("_law_other", 3)]) (g := gTup K 2 (gCons (gName 2) (gCons (gName 3) gNil))) (tt := tYes) rfl scS.nd (pi_zipA (by rfl) M.zip (pa_cons (pv 0) (pa_cons (pv 1) pa_nil)))
                  (blkOk_by (N := ["_law_found", "_law_due", "_law_one_here", "_law_other"]) (sc := defScope sSame) (by decide +kernel))
                  (fun _ _ _ _ _ => pg_tup rfl (pgs_cons (pg_name (i := 2) scS.nd rfl (.inl rfl)) (pgs_cons (pg_name (i := 3) scS.nd rfl (.inl rfl)) pgs_nil))) (fun _ _ _ _ _ => pts_nil)
                  (fun _ _ _ _ _ => pe_call ih hr (by rfl) gl F.kp bd .nil pass0 (pa_cons (pv 2) (pa_cons (pv 3) pa_nil)))) pa_nil)))))))
            pss_nil)
          (pss_cons ps_never (pss_one ps_never))), ?_⟩
        refine ⟨_, rfl, rfl, _, rfl, ite2 (fun e => (nomatch (of_decide_eq_true e))) fun _ => ?_⟩
        have fin : ∀ H' D, Same H H' → H' D = some (.lst ((List.replicate xs.length true).map V.bl)) → Q (.bl true) H' := fun H' D s' _ => q H' s'
        rcases hS with ⟨h1, h2⟩ | ⟨h1, h2⟩
        · refine ⟨_, rfl, _, _, _, _, _, rfl, .ty "list", ty_list h2, kit_ty (r := true) (by decide +kernel), _, rfl, iteT ?_⟩
          refine iteT ?_
          refine ⟨_, rfl, _, _, _, _, _, rfl, .ty "list", ty_list h1, kit_ty (r := true) (by decide +kernel), _, rfl, _, _, _, _, _, rfl, .ty "list", ty_list h2, kit_ty (r := true) (by decide +kernel), rfl, _, rfl, iteNS rfl ?_⟩
          refine ⟨_, rfl, _, _, _, _, _, rfl, .ty "tuple", ty_list h1, kit_ty (r := false) (by decide +kernel), _, rfl, _, _, _, _, _, rfl, .ty "tuple", ty_list h2, kit_ty (r := false) (by decide +kernel), rfl, _, rfl, iteNS rfl ?_⟩
          refine ⟨_, rfl, p1, xs, rfl, .inl h1, _, rfl, p2, ys, rfl, .inl h2, rfl, true, by rw [hlen, decide_eq_true rfl], iteT ?_⟩
          refine ⟨_, rfl, _, rfl, p1, p2, xs, ys, rfl, .inl ⟨h1, h2, fun D nD => ?_⟩⟩
          refine lc_it (walk_zip (K := K) (a := p1) (b := p2) (xs := xs) (ys := ys) (n := xs.length) (by omega)) (fun i H' => H' D = some (.lst ((List.replicate i true).map V.bl)) ∧ Same H H' ∧ i ≤ xs.length) ⟨upd_same, same_upd nD, Nat.zero_le _⟩ (fun i H' _ hp => ⟨hp.2.1.seq h1, hp.2.1.seq h2⟩) ?_ ?_
          · rintro i v H1 H2 hi ⟨hD, sm, _⟩ ⟨T, x, y, rfl, nT, rfl, gx, gy⟩
            have sT : Same H1 (upd H1 T (.tup [x, y])) := same_upd nT
            refine ⟨T, [x, y], rfl, SqT.of upd_same, rfl, x, [y], rfl, y, [], rfl, rfl, rfl, ?_⟩
            dsimp only [tYes]
            refine iteT ⟨_, rfl, _, rfl, x, y, rfl, Sv.same (sm.trans sT) n x y (paired_at pr i x y gx gy), fun H3 s3 => ?_⟩
            refine ⟨_, s3 _ _ (sT _ _ hD), by rw [List.length_map, List.length_replicate]; exact Nat.lt_of_lt_of_le hi (Nat.le_trans hl (by decide)), ?_, ?_, hi⟩
            · rw [upd_same, List.replicate_succ', List.map_append]
              rfl
            · intro c o e
              rw [upd_ne (ne_of_none e nD)]
              exact s3 _ _ (sT _ _ (sm _ _ e))
          · rintro H' ⟨hD, sm, _⟩
            refine ⟨D, List.replicate xs.length true, rfl, SqL.of hD, ?_⟩
            rw [show (List.replicate xs.length true).all id = true by simp]
            exact q H' sm
        · refine ⟨_, rfl, _, _, _, _, _, rfl, .ty "list", ty_tup h2, kit_ty (r := false) (by decide +kernel), _, rfl, iteF ?_⟩
          refine ⟨_, rfl, _, _, _, _, _, rfl, .ty "tuple", ty_tup h2, kit_ty (r := true) (by decide +kernel), _, rfl, iteT ?_⟩
          refine ⟨_, rfl, _, _, _, _, _, rfl, .ty "list", ty_tup h1, kit_ty (r := false) (by decide +kernel), _, rfl, _, _, _, _, _, rfl, .ty "list", ty_tup h2, kit_ty (r := false) (by decide +kernel), rfl, _, rfl, iteNS rfl ?_⟩
          refine ⟨_, rfl, _, _, _, _, _, rfl, .ty "tuple", ty_tup h1, kit_ty (r := true) (by decide +kernel), _, rfl, _, _, _, _, _, rfl, .ty "tuple", ty_tup h2, kit_ty (r := true) (by decide +kernel), rfl, _, rfl, iteNS rfl ?_⟩
          refine ⟨_, rfl, p1, xs, rfl, .inr h1, _, rfl, p2, ys, rfl, .inr h2, rfl, true, by rw [hlen, decide_eq_true rfl], iteT ?_⟩
          refine ⟨_, rfl, _, rfl, p1, p2, xs, ys, rfl, .inr ⟨h1, h2, fun D nD => ?_⟩⟩
          refine lc_it (walk_zipT (K := K) (a := p1) (b := p2) (xs := xs) (ys := ys) (n := xs.length) (by omega)) (fun i H' => H' D = some (.lst ((List.replicate i true).map V.bl)) ∧ Same H H' ∧ i ≤ xs.length) ⟨upd_same, same_upd nD, Nat.zero_le _⟩ (fun i H' _ hp => ⟨same_tup hp.2.1 h1, same_tup hp.2.1 h2⟩) ?_ ?_
          · rintro i v H1 H2 hi ⟨hD, sm, _⟩ ⟨T, x, y, rfl, nT, rfl, gx, gy⟩
            have sT : Same H1 (upd H1 T (.tup [x, y])) := same_upd nT
            refine ⟨T, [x, y], rfl, SqT.of upd_same, rfl, x, [y], rfl, y, [], rfl, rfl, rfl, ?_⟩
            dsimp only [tYes]
            refine iteT ⟨_, rfl, _, rfl, x, y, rfl, Sv.same (sm.trans sT) n x y (paired_at pr i x y gx gy), fun H3 s3 => ?_⟩
            refine ⟨_, s3 _ _ (sT _ _ hD), by rw [List.length_map, List.length_replicate]; exact Nat.lt_of_lt_of_le hi (Nat.le_trans hl (by decide)), ?_, ?_, hi⟩
            · rw [upd_same, List.replicate_succ', List.map_append]
              rfl
            · intro c o e
              rw [upd_ne (ne_of_none e nD)]
              exact s3 _ _ (sT _ _ (sm _ _ e))
          · rintro H' ⟨hD, sm, _⟩
            refine ⟨D, List.replicate xs.length true, rfl, SqL.of hD, ?_⟩
            rw [show (List.replicate xs.length true).all id = true by simp]
            exact q H' sm
end
end Wb
namespace Wb
open PySem PySem.Spec PyProof.Rows L2 RZ Sg
abbrev sInit : Stmt := inClass (topS 10) 0
abbrev sPoints : Stmt := inClass (topS 10) 1
abbrev sArrows : Stmt := inClass (topS 10) 2
abbrev sMarks : Stmt := inClass (topS 10) 3
abbrev sRA : Stmt := topS 11
abbrev sRM : Stmt := topS 12
abbrev sGat : Stmt := topS 13
theorem seq_set {te : TE} {i : Nat} {rest : TS} {D : Ends} {σ : L2.St} {H : Hp} (h : te σ H fun v H' => rest D (σ.set i (some v)) H') : tSeq (tAsg te (gName i)) rest D σ H := h
theorem ret_of {te : TE} {D : Ends} {σ : L2.St} {H : Hp} (h : te σ H D.rt) : tRet te D σ H := h
/-! ### ties -/
def AK (n : Int) (k : List Key) : Prop := ∃ (c : Nat) (x y : Int), k = [.inr ⟨#[c]⟩, .inl x, .inl y] ∧ (c = 97 ∨ c = 98 ∨ c = 99) ∧ 0 ≤ x ∧ x < n ∧ 0 ≤ y ∧ y < n
def MK (n : Int) (k : List Key) : Prop := ∃ (c : Nat) (x : Int), k = [.inr ⟨#[c]⟩, .inl x] ∧ (c = 112 ∨ c = 113 ∨ c = 114) ∧ 0 ≤ x ∧ x < n
theorem AK.tie {n : Int} {k : List Key} (h : AK n k) (hn : n ≤ 128) : TieK 128 3 k := by
  obtain ⟨c, x, y, rfl, hc, h1, h2, h3, h4⟩ := h
  refine ⟨c, [x, y], rfl, rfl, fun m hm => ?_⟩
  simp only [List.mem_cons, List.not_mem_nil, or_false] at hm
  rcases hm with rfl | rfl | rfl <;> omega
theorem MK.tie {n : Int} {k : List Key} (h : MK n k) (hn : n ≤ 128) : TieK 128 2 k := by
  obtain ⟨c, x, rfl, hc, h1, h2⟩ := h
  refine ⟨c, [x], rfl, rfl, fun m hm => ?_⟩
  simp only [List.mem_cons, List.not_mem_nil, or_false] at hm
  rcases hm with rfl | rfl <;> omega
/-- a list or tuple of ties stands at l -/
def TL (K : PySem.W.Frag) (H : Hp) (l : Addr) (ks : List TK) : Prop := (SqL K H l (refs ks) ∨ SqT K H l (refs ks)) ∧ ∀ p ∈ ks, SqT K H p.1 (p.2.map kV)
theorem TL.same {K : PySem.W.Frag} {H H' : Hp} {l : Addr} {ks : List TK} (s : Same H H') (h : TL K H l ks) : TL K H' l ks :=
  ⟨h.1.imp (fun z => s.seq z) fun z => same_tup s z, fun p hp => same_tup s (h.2 p hp)⟩
section
variable {P : Program} {w : World} {K : PySem.W.Frag} {mg : Str → Option Value} {base : Heap}
theorem in_abc {c : Nat} (h : c = 97 ∨ c = 98 ∨ c = 99) : inV (.str ⟨#[c]⟩) (signsV "abc") = true := by
  rcases h with rfl | rfl | rfl <;> decide +kernel
theorem in_pqr {c : Nat} (h : c = 112 ∨ c = 113 ∨ c = 114) : inV (.str ⟨#[c]⟩) (signsV "pqr") = true := by
  rcases h with rfl | rfl | rfl <;> decide +kernel
def spRA (K : PySem.W.Frag) : Sp := fun vs H Q _ => ∃ n l ks, vs = [.int n, .ref l] ∧ TL K H l ks ∧ (∀ p ∈ ks, AK n p.2) ∧ ∀ H', Same H H' → Q .non H'
theorem scRA : FnScope ["points", "arrows", "colours", "at", "colour", "start", "end"] ["points", "arrows"] (defScope sRA) := ⟨rfl, rfl, rfl, by decide +kernel, rfl, by decide +kernel, by decide +kernel⟩
set_option maxHeartbeats 2000000 in
theorem ok_ra {f : Addr} {fd : FuncData} {tk : Tok} (F : Fun K "refuse_bad_arrows" "refuse_bad_arrows" sRA f fd) (mli : mg "list" = none) (me : mg "enumerate" = none) (gC : mg "COLOURS" = some (.str "abc" tk)) : FnOk P w K mg base CX0 1 f fd ["points", "arrows"] (spRA K) := by
  refine F.ok scRA (fun vs H Q E h => ?_) (fun cdv A outer s H vs Q E hr h => ?_)
  · obtain ⟨n, l, ks, rfl, _⟩ := h
    rfl
  · obtain ⟨n, l, ks, rfl, hT, hA, KQ⟩ := h
    refine ⟨_, pss_cons (ps_set (i := 2) scRA.nd rfl (.inl rfl) (pe_callTy (cr_listS rfl) (by rfl) mli boot_list (pa_cons (pe_glob (v := .str "abc") (by rfl) gC ⟨_, rfl⟩) pa_nil)))
      (pss_one (ps_for PassesOwn.never rfl (pi_enA (by rfl) me (pa_cons (pv 1) pa_nil)) (pg_tup rfl (pgs_cons (pg_name (i := 3) scRA.nd rfl (.inl rfl)) (pgs_cons (pg_tup rfl (pgs_cons (pg_name (i := 4) scRA.nd rfl (.inl rfl)) (pgs_cons (pg_name (i := 5) scRA.nd rfl (.inl rfl)) (pgs_cons (pg_name (i := 6) scRA.nd rfl (.inl rfl)) pgs_nil)))) pgs_nil)))
        (pss_one (ps_if (PW.pt (pw_or (pt_cmpR op_notIn_seq (pv 4) (pv 2) (by rfl)) (pw_or (pt_not (pt_chain op_le op_lt pe_int (pv 5) (pv 0))) (pw_or1 (pt_not (pt_chain op_le op_lt pe_int (pv 6) (pv 0))))))) (pss_one ps_never) pss_nil)))), ?_⟩
    refine seq_set ⟨_, rfl, by decide, fun p np => ?_⟩
    have s0 : Same H (upd H p (.lst (signsV "abc"))) := same_upd np
    have e0 : (upd H p (.lst (signsV "abc"))) p = some (.lst (signsV "abc")) := upd_same
    generalize upd H p (.lst (signsV "abc")) = H0 at s0 e0 ⊢
    rcases hT.1 with hS | hS
    · refine ⟨_, rfl, l, refs ks, rfl, .inl ⟨s0.seq hS, for_it (walk_enum (K := K) (a := l) (xs := refs ks)) (fun i σ J => ∃ y3 y4 y5 y6, σ = [some (.int n), some (.ref l), some (.ref p), y3, y4, y5, y6] ∧ Same H0 J) ⟨_, _, _, _, rfl, Same.refl _⟩ ?_ ?_ ?_⟩⟩
      · rintro i σ J _ ⟨y3, y4, y5, y6, rfl, sm⟩
        exact sm.seq (s0.seq hS)
      · rintro i v σ J J' hi ⟨y3, y4, y5, y6, rfl, sm⟩ ⟨T, a1, a2, rfl, nT, rfl, e1, e2⟩
        cases e1
        have hik : i < ks.length := by
          rw [List.length_map] at hi
          exact hi
        have gi : (refs ks)[i]? = some (.ref ks[i].1) := by
          rw [List.getElem?_map, List.getElem?_eq_getElem hik]
          rfl
        cases e2.symm.trans gi
        have sT : Same J (upd J T (.tup [.int (i : Nat), .ref ks[i].1])) := same_upd nT
        have hm : ks[i] ∈ ks := List.getElem_mem hik
        have sq := same_tup (sm.trans sT) (same_tup s0 (hT.2 _ hm))
        obtain ⟨c, x, y, ek, hc, h1, h2, h3, h4⟩ := hA _ hm
        rw [ek] at sq
        refine ⟨T, [.int (i : Nat), .ref ks[i].1], rfl, SqT.of upd_same, rfl, .int (i : Nat), [.ref ks[i].1], rfl, .ref ks[i].1, [], rfl, ⟨ks[i].1, [.str ⟨#[c]⟩, .int x, .int y], rfl, sq, rfl, .str ⟨#[c]⟩, [.int x, .int y], rfl, .int x, [.int y], rfl, .int y, [], rfl, rfl, rfl, ?_⟩⟩
        refine ⟨_, rfl, _, rfl, p, signsV "abc", rfl, .inl (SqL.of (sT _ _ (sm _ _ e0))), rfl, by decide +kernel, _, rfl, ?_⟩
        rw [in_abc hc]
        refine iteF ?_
        refine ⟨_, rfl, _, _, rfl, rfl, _, rfl, ?_⟩
        rw [decide_eq_true (show (0 : Int) ≤ x from h1)]
        refine iteT ⟨_, rfl, _, _, rfl, rfl, _, rfl, ?_⟩
        rw [decide_eq_true (show x < n from h2)]
        refine iteF ?_
        refine ⟨_, rfl, _, _, rfl, rfl, _, rfl, ?_⟩
        rw [decide_eq_true (show (0 : Int) ≤ y from h3)]
        refine iteT ⟨_, rfl, _, _, rfl, rfl, _, rfl, ?_⟩
        rw [decide_eq_true (show y < n from h4)]
        refine iteF ?_
        exact ⟨_, _, _, _, rfl, sm.trans sT⟩
      · rintro σ J ⟨y3, y4, y5, y6, rfl, sm⟩
        exact KQ J (s0.trans sm)
    · refine ⟨_, rfl, l, refs ks, rfl, .inr ⟨same_tup s0 hS, for_it (walk_enumT (K := K) (a := l) (xs := refs ks)) (fun i σ J => ∃ y3 y4 y5 y6, σ = [some (.int n), some (.ref l), some (.ref p), y3, y4, y5, y6] ∧ Same H0 J) ⟨_, _, _, _, rfl, Same.refl _⟩ ?_ ?_ ?_⟩⟩
      · rintro i σ J _ ⟨y3, y4, y5, y6, rfl, sm⟩
        exact same_tup sm (same_tup s0 hS)
      · rintro i v σ J J' hi ⟨y3, y4, y5, y6, rfl, sm⟩ ⟨T, a1, a2, rfl, nT, rfl, e1, e2⟩
        cases e1
        have hik : i < ks.length := by
          rw [List.length_map] at hi
          exact hi
        have gi : (refs ks)[i]? = some (.ref ks[i].1) := by
          rw [List.getElem?_map, List.getElem?_eq_getElem hik]
          rfl
        cases e2.symm.trans gi
        have sT : Same J (upd J T (.tup [.int (i : Nat), .ref ks[i].1])) := same_upd nT
        have hm : ks[i] ∈ ks := List.getElem_mem hik
        have sq := same_tup (sm.trans sT) (same_tup s0 (hT.2 _ hm))
        obtain ⟨c, x, y, ek, hc, h1, h2, h3, h4⟩ := hA _ hm
        rw [ek] at sq
        refine ⟨T, [.int (i : Nat), .ref ks[i].1], rfl, SqT.of upd_same, rfl, .int (i : Nat), [.ref ks[i].1], rfl, .ref ks[i].1, [], rfl, ⟨ks[i].1, [.str ⟨#[c]⟩, .int x, .int y], rfl, sq, rfl, .str ⟨#[c]⟩, [.int x, .int y], rfl, .int x, [.int y], rfl, .int y, [], rfl, rfl, rfl, ?_⟩⟩
        refine ⟨_, rfl, _, rfl, p, signsV "abc", rfl, .inl (SqL.of (sT _ _ (sm _ _ e0))), rfl, by decide +kernel, _, rfl, ?_⟩
        rw [in_abc hc]
        refine iteF ?_
        refine ⟨_, rfl, _, _, rfl, rfl, _, rfl, ?_⟩
        rw [decide_eq_true (show (0 : Int) ≤ x from h1)]
        refine iteT ⟨_, rfl, _, _, rfl, rfl, _, rfl, ?_⟩
        rw [decide_eq_true (show x < n from h2)]
        refine iteF ?_
        refine ⟨_, rfl, _, _, rfl, rfl, _, rfl, ?_⟩
        rw [decide_eq_true (show (0 : Int) ≤ y from h3)]
        refine iteT ⟨_, rfl, _, _, rfl, rfl, _, rfl, ?_⟩
        rw [decide_eq_true (show y < n from h4)]
        refine iteF ?_
        exact ⟨_, _, _, _, rfl, sm.trans sT⟩
      · rintro σ J ⟨y3, y4, y5, y6, rfl, sm⟩
        exact KQ J (s0.trans sm)
def spRM (K : PySem.W.Frag) : Sp := fun vs H Q _ => ∃ n l ks, vs = [.int n, .ref l] ∧ TL K H l ks ∧ (∀ p ∈ ks, MK n p.2) ∧ ∀ H', Same H H' → Q .non H'
theorem scRM : FnScope ["points", "marks", "signs", "at", "mark", "point"] ["points", "marks"] (defScope sRM) := ⟨rfl, rfl, rfl, by decide +kernel, rfl, by decide +kernel, by decide +kernel⟩
set_option maxHeartbeats 2000000 in
theorem ok_rm {f : Addr} {fd : FuncData} {tk : Tok} (F : Fun K "refuse_bad_marks" "refuse_bad_marks" sRM f fd) (mli : mg "list" = none) (me : mg "enumerate" = none) (gC : mg "MARKS" = some (.str "pqr" tk)) : FnOk P w K mg base CX0 1 f fd ["points", "marks"] (spRM K) := by
  refine F.ok scRM (fun vs H Q E h => ?_) (fun cdv A outer s H vs Q E hr h => ?_)
  · obtain ⟨n, l, ks, rfl, _⟩ := h
    rfl
  · obtain ⟨n, l, ks, rfl, hT, hA, KQ⟩ := h
    refine ⟨_, pss_cons (ps_set (i := 2) scRM.nd rfl (.inl rfl) (pe_callTy (cr_listS rfl) (by rfl) mli boot_list (pa_cons (pe_glob (v := .str "pqr") (by rfl) gC ⟨_, rfl⟩) pa_nil)))
      (pss_one (ps_for PassesOwn.never rfl (pi_enA (by rfl) me (pa_cons (pv 1) pa_nil)) (pg_tup rfl (pgs_cons (pg_name (i := 3) scRM.nd rfl (.inl rfl)) (pgs_cons (pg_tup rfl (pgs_cons (pg_name (i := 4) scRM.nd rfl (.inl rfl)) (pgs_cons (pg_name (i := 5) scRM.nd rfl (.inl rfl)) pgs_nil))) pgs_nil)))
        (pss_one (ps_if (PW.pt (pw_or (pt_cmpR op_notIn_seq (pv 4) (pv 2) (by rfl)) (pw_or1 (pt_not (pt_chain op_le op_lt pe_int (pv 5) (pv 0)))))) (pss_one ps_never) pss_nil)))), ?_⟩
    refine seq_set ⟨_, rfl, by decide, fun p np => ?_⟩
    have s0 : Same H (upd H p (.lst (signsV "pqr"))) := same_upd np
    have e0 : (upd H p (.lst (signsV "pqr"))) p = some (.lst (signsV "pqr")) := upd_same
    generalize upd H p (.lst (signsV "pqr")) = H0 at s0 e0 ⊢
    rcases hT.1 with hS | hS
    · refine ⟨_, rfl, l, refs ks, rfl, .inl ⟨s0.seq hS, for_it (walk_enum (K := K) (a := l) (xs := refs ks)) (fun i σ J => ∃ y3 y4 y5, σ = [some (.int n), some (.ref l), some (.ref p), y3, y4, y5] ∧ Same H0 J) ⟨_, _, _, rfl, Same.refl _⟩ ?_ ?_ ?_⟩⟩
      · rintro i σ J _ ⟨y3, y4, y5, rfl, sm⟩
        exact sm.seq (s0.seq hS)
      · rintro i v σ J J' hi ⟨y3, y4, y5, rfl, sm⟩ ⟨T, a1, a2, rfl, nT, rfl, e1, e2⟩
        cases e1
        have hik : i < ks.length := by
          rw [List.length_map] at hi
          exact hi
        have gi : (refs ks)[i]? = some (.ref ks[i].1) := by
          rw [List.getElem?_map, List.getElem?_eq_getElem hik]
          rfl
        cases e2.symm.trans gi
        have sT : Same J (upd J T (.tup [.int (i : Nat), .ref ks[i].1])) := same_upd nT
        have hm : ks[i] ∈ ks := List.getElem_mem hik
        have sq := same_tup (sm.trans sT) (same_tup s0 (hT.2 _ hm))
        obtain ⟨c, x, ek, hc, h1, h2⟩ := hA _ hm
        rw [ek] at sq
        refine ⟨T, [.int (i : Nat), .ref ks[i].1], rfl, SqT.of upd_same, rfl, .int (i : Nat), [.ref ks[i].1], rfl, .ref ks[i].1, [], rfl, ⟨ks[i].1, [.str ⟨#[c]⟩, .int x], rfl, sq, rfl, .str ⟨#[c]⟩, [.int x], rfl, .int x, [], rfl, rfl, rfl, ?_⟩⟩
        refine ⟨_, rfl, _, rfl, p, signsV "pqr", rfl, .inl (SqL.of (sT _ _ (sm _ _ e0))), rfl, by decide +kernel, _, rfl, ?_⟩
        rw [in_pqr hc]
        refine iteF ?_
        refine ⟨_, rfl, _, _, rfl, rfl, _, rfl, ?_⟩
        rw [decide_eq_true (show (0 : Int) ≤ x from h1)]
        refine iteT ⟨_, rfl, _, _, rfl, rfl, _, rfl, ?_⟩
        rw [decide_eq_true (show x < n from h2)]
        refine iteF ?_
        exact ⟨_, _, _, rfl, sm.trans sT⟩
      · rintro σ J ⟨y3, y4, y5, rfl, sm⟩
        exact KQ J (s0.trans sm)
    · refine ⟨_, rfl, l, refs ks, rfl, .inr ⟨same_tup s0 hS, for_it (walk_enumT (K := K) (a := l) (xs := refs ks)) (fun i σ J => ∃ y3 y4 y5, σ = [some (.int n), some (.ref l), some (.ref p), y3, y4, y5] ∧ Same H0 J) ⟨_, _, _, rfl, Same.refl _⟩ ?_ ?_ ?_⟩⟩
      · rintro i σ J _ ⟨y3, y4, y5, rfl, sm⟩
        exact same_tup sm (same_tup s0 hS)
      · rintro i v σ J J' hi ⟨y3, y4, y5, rfl, sm⟩ ⟨T, a1, a2, rfl, nT, rfl, e1, e2⟩
        cases e1
        have hik : i < ks.length := by
          rw [List.length_map] at hi
          exact hi
        have gi : (refs ks)[i]? = some (.ref ks[i].1) := by
          rw [List.getElem?_map, List.getElem?_eq_getElem hik]
          rfl
        cases e2.symm.trans gi
        have sT : Same J (upd J T (.tup [.int (i : Nat), .ref ks[i].1])) := same_upd nT
        have hm : ks[i] ∈ ks := List.getElem_mem hik
        have sq := same_tup (sm.trans sT) (same_tup s0 (hT.2 _ hm))
        obtain ⟨c, x, ek, hc, h1, h2⟩ := hA _ hm
        rw [ek] at sq
        refine ⟨T, [.int (i : Nat), .ref ks[i].1], rfl, SqT.of upd_same, rfl, .int (i : Nat), [.ref ks[i].1], rfl, .ref ks[i].1, [], rfl, ⟨ks[i].1, [.str ⟨#[c]⟩, .int x], rfl, sq, rfl, .str ⟨#[c]⟩, [.int x], rfl, .int x, [], rfl, rfl, rfl, ?_⟩⟩
        refine ⟨_, rfl, _, rfl, p, signsV "pqr", rfl, .inl (SqL.of (sT _ _ (sm _ _ e0))), rfl, by decide +kernel, _, rfl, ?_⟩
        rw [in_pqr hc]
        refine iteF ?_
        refine ⟨_, rfl, _, _, rfl, rfl, _, rfl, ?_⟩
        rw [decide_eq_true (show (0 : Int) ≤ x from h1)]
        refine iteT ⟨_, rfl, _, _, rfl, rfl, _, rfl, ?_⟩
        rw [decide_eq_true (show x < n from h2)]
        refine iteF ?_
        exact ⟨_, _, _, rfl, sm.trans sT⟩
      · rintro σ J ⟨y3, y4, y5, rfl, sm⟩
        exact KQ J (s0.trans sm)
end
end Wb
namespace Wb
open PySem PySem.Spec PyProof.Rows L2 RZ Sg
/-! ### the rows gathered by their first two things -/
def k2 (p : TK) : List Key := p.2.take 2
def lastV (p : TK) : V := kV (p.2.getD 2 (.inl 0))
def gat (rows : List TK) (k : List Key) : List V := (rows.filter fun p => decide (k2 p = k)).map lastV
theorem gat_add (rows : List TK) (p : TK) (k : List Key) : gat (rows ++ [p]) k = if k2 p = k then gat rows k ++ [lastV p] else gat rows k := by
  unfold gat
  rw [List.filter_append, List.map_append]
  by_cases h : k2 p = k
  · rw [if_pos h]
    simp [h]
  · rw [if_neg h]
    simp [h]
theorem gat_len (rows : List TK) (k : List Key) : (gat rows k).length ≤ rows.length := by
  unfold gat
  rw [List.length_map]
  exact List.length_filter_le ..
/-- the dict at d, new since H0, holds by each key the last things of its rows -/
structure GD (H0 H : Hp) (d : Addr) (rows : List TK) : Prop where
  nd : H0 d = none
  ex : ∃ kvs, H d = some (.dT kvs) ∧ kvs.length ≤ rows.length ∧ (∀ k, valV kvs k = none → gat rows k = []) ∧ (∀ k v, valV kvs k = some v → ∃ q, v = .ref q ∧ H0 q = none ∧ H q = some (.lst (gat rows k))) ∧
    ∀ k j q, valV kvs k = some (.ref q) → valV kvs j = some (.ref q) → k = j
theorem GD.new {H0 H : Hp} {d p : Addr} {o : HO} {rows : List TK} (g : GD H0 H d rows) (h : H p = none) : GD H0 (upd H p o) d rows := by
  obtain ⟨kvs, e, l, h1, h2, h3⟩ := g.ex
  refine ⟨g.nd, kvs, by rw [upd_ne (ne_of_none e h)]; exact e, l, h1, fun k v hv => ?_, h3⟩
  obtain ⟨q, eq, nq, hq⟩ := h2 k v hv
  exact ⟨q, eq, nq, by rw [upd_ne (ne_of_none hq h)]; exact hq⟩
section
variable {P : Program} {w : World} {K : PySem.W.Frag} {mg : Str → Option Value} {base : Heap}
def R3 (k : List Key) : Prop := ∃ (z : Str) (x y : Int), k = [.inr z, .inl x, .inl y]
def spGat (K : PySem.W.Frag) : Sp := fun vs H Q _ => ∃ l ks, vs = [.ref l] ∧ SqL K H l (refs ks) ∧ (∀ p ∈ ks, SqT K H p.1 (p.2.map kV) ∧ R3 p.2) ∧ ks.length ≤ 1000 ∧ ∀ d H', Same H H' → GD H H' d ks → Q (.ref d) H'
theorem scG : FnScope ["rows", "lasts", "colour", "point", "last"] ["rows"] (defScope sGat) := ⟨rfl, rfl, rfl, by decide +kernel, rfl, by decide +kernel, by decide +kernel⟩
set_option maxHeartbeats 2000000 in
theorem ok_gat {f : Addr} {fd : FuncData} (F : Fun K "gathered" "gathered" sGat f fd) : FnOk P w K mg base CX0 1 f fd ["rows"] (spGat K) := by
  refine F.ok scG (fun vs H Q E h => ?_) (fun cdv A outer s H vs Q E hr h => ?_)
  · obtain ⟨l, ks, rfl, _⟩ := h
    rfl
  · obtain ⟨l, ks, rfl, hS, hK, hlen, KQ⟩ := h
    have hu := hu_of hr
    refine ⟨_, pss_cons (ps_set (i := 1) scG.nd rfl (.inl rfl) pe_dnewT)
      (pss_cons (ps_for PassesOwn.never rfl (pi_list (pv 0)) (pg_tup rfl (pgs_cons (pg_name (i := 2) scG.nd rfl (.inl rfl)) (pgs_cons (pg_name (i := 3) scG.nd rfl (.inl rfl)) (pgs_cons (pg_name (i := 4) scG.nd rfl (.inl rfl)) pgs_nil))))
        (pss_one (ps_expr (pe_bm PySem.F.plainAttrs_list PySem.F.slot_list_append PySem.F.type_list_append mt_append (pe_setT hu (pv 1) (pe_tup (pa_cons (pv 2) (pa_cons (pv 3) pa_nil))) (pe_lst pa_nil) ⟨rfl, rfl, rfl, rfl⟩) (pa_cons (pv 4) pa_nil)))))
      (pss_one (ps_ret (pv 1)))), ?_⟩
    refine seq_set fun d nd => ?_
    have s0 : Same H (upd H d (.dT [])) := same_upd nd
    have g0 : GD H (upd H d (.dT [])) d [] := ⟨nd, [], upd_same, Nat.le_refl _, (fun _ _ => rfl), (fun k v hv => by rw [valV_nil] at hv; cases hv), (fun k j q hv => by rw [valV_nil] at hv; cases hv)⟩
    generalize upd H d (.dT []) = H0 at s0 g0 ⊢
    refine ⟨_, rfl, l, rfl, ⟨_, s0.seq hS⟩, for_list (xs := refs ks) (fun i σ J => ∃ y2 y3 y4, σ = [some (.ref l), some (.ref d), y2, y3, y4] ∧ Same H J ∧ GD H J d (ks.take i)) ⟨_, _, _, rfl, s0, g0⟩ ?_ ?_ ?_⟩
    · rintro i σ J _ ⟨y2, y3, y4, _, sm, _⟩
      exact sm.seq hS
    · rintro i v σ J hv ⟨y2, y3, y4, rfl, sm, g⟩
      have hik : i < ks.length := by
        have := (List.getElem?_eq_some_iff.mp hv).1
        rwa [List.length_map] at this
      have gi : (refs ks)[i]? = some (.ref ks[i].1) := by
        rw [List.getElem?_map, List.getElem?_eq_getElem hik]
        rfl
      cases hv.symm.trans gi
      have hm : ks[i] ∈ ks := List.getElem_mem hik
      obtain ⟨hq, z, x, y, ek⟩ := hK _ hm
      have sq := same_tup sm hq
      rw [ek] at sq
      have ht : ks.take (i + 1) = ks.take i ++ [ks[i]] := by
        rw [List.take_add_one, List.getElem?_eq_getElem hik]
        rfl
      have e2 : k2 ks[i] = [.inr z, .inl x] := by
        unfold k2
        rw [ek]
        rfl
      have el : lastV ks[i] = .int y := by
        unfold lastV
        rw [ek]
        rfl
      refine ⟨ks[i].1, [.str z, .int x, .int y], rfl, sq, rfl, .str z, [.int x, .int y], rfl, .int x, [.int y], rfl, .int y, [], rfl, rfl, ?_⟩
      obtain ⟨kv0, e0, _⟩ := g.ex
      refine ⟨_, rfl, d, kv0, rfl, e0, _, rfl, _, rfl, by show 2 ≤ sizeLine; decide, fun T nT => ?_⟩
      have g1 := g.new (o := .tup [.str z, .int x]) nT
      have s1 : Same H (upd J T (.tup [.str z, .int x])) := sm.trans (same_upd nT)
      have eT : (upd J T (.tup [.str z, .int x])) T = some (.tup (([.inr z, .inl x] : List Key).map kV)) := upd_same
      generalize upd J T (.tup [.str z, .int x]) = J1 at g1 s1 eT ⊢
      refine ⟨Nat.zero_le _, fun q' nq => ?_⟩
      have g2 := g1.new (o := .lst []) nq
      have s2 : Same H (upd J1 q' (.lst [])) := s1.trans (same_upd nq)
      have eT2 := same_upd (o := .lst []) nq _ _ eT
      have eq' : (upd J1 q' (.lst [])) q' = some (.lst []) := upd_same
      have hq0 : H q' = none := s1.free nq
      have fr : ∀ k q, (∃ kvs, (upd J1 q' (.lst [])) d = some (.dT kvs) ∧ valV kvs k = some (.ref q)) → q ≠ q' := by
        rintro k q ⟨kvs, ekv, hv2⟩ rfl
        obtain ⟨kv1, e1, _, _, h2, _⟩ := g1.ex
        have e1' := same_upd (o := .lst []) nq _ _ e1
        rw [ekv] at e1'
        cases e1'
        obtain ⟨q1, z1, _, hq1⟩ := h2 k _ hv2
        cases z1
        rw [nq] at hq1
        cases hq1
      generalize upd J1 q' (.lst []) = J2 at g2 s2 eT2 eq' fr ⊢
      obtain ⟨kvs, e1, hl, h1, h2, h3⟩ := g2.ex
      have ltn : (ks.take i).length ≤ 1000 := by
        rw [List.length_take]
        omega
      refine ⟨T, kvs, [.inr z, .inl x], rfl, e1, eT2, small1000 (by omega), fun v hv2 => ?_, fun hn => ?_⟩
      · obtain ⟨q, rfl, nq0, hq2⟩ := h2 _ _ hv2
        refine ⟨.inl ⟨rfl, _, SqL.of hq2⟩, _, rfl, q, _, _, rfl, rfl, hq2, Nat.lt_of_le_of_lt (gat_len _ _) (small1000 ltn), ?_⟩
        have dq : d ≠ q := ne_of e1 hq2 (fun z => nomatch z)
        refine ⟨_, _, _, rfl, fun c o ec => ?_, ⟨nd, kvs, by rw [upd_ne dq]; exact e1, by rw [ht, List.length_append]; exact Nat.le_succ_of_le hl, fun k hk => ?_, fun k u hk => ?_, h3⟩⟩
        · rw [upd_ne (ne_of_none ec nq0)]
          exact s2 _ _ ec
        · rw [ht, gat_add, e2, if_neg (fun z => by rw [← z, hv2] at hk; cases hk)]
          exact h1 k hk
        · obtain ⟨q1, rfl, n1, hq1⟩ := h2 k u hk
          refine ⟨q1, rfl, n1, ?_⟩
          rw [ht, gat_add, e2, el]
          by_cases hkk : ([.inr z, .inl x] : List Key) = k
          · subst hkk
            rw [hv2] at hk
            cases hk
            rw [upd_same, if_pos rfl]
          · rw [if_neg hkk, upd_ne (fun z => hkk (h3 _ _ q hv2 (by rw [← z]; exact hk)))]
            exact hq1
      · have g00 := h1 _ hn
        have dq : d ≠ q' := ne_of e1 eq' (fun z => nomatch z)
        have ed : (upd J2 d (.dT (putK kvs [.inr z, .inl x] (.ref q')))) q' = some (.lst []) := by
          rw [upd_ne dq.symm]
          exact eq'
        refine ⟨.inl ⟨rfl, _, SqL.of ed⟩, _, rfl, q', _, _, rfl, rfl, ed, by decide, ?_⟩
        refine ⟨_, _, _, rfl, fun c o ec => ?_, ⟨nd, putK kvs [.inr z, .inl x] (.ref q'), by rw [upd_ne dq, upd_same], ?_, fun k hk => ?_, fun k u hk => ?_, fun k j q hk hj => ?_⟩⟩
        · rw [upd_ne (ne_of_none ec hq0), upd_ne (ne_of_none ec nd)]
          exact s2 _ _ ec
        · rw [putK_new _ hn, ht, List.length_append, List.length_append]
          exact Nat.succ_le_succ hl
        · rw [valV_put] at hk
          by_cases hkk : k = ([.inr z, .inl x] : List Key)
          · rw [if_pos hkk] at hk
            cases hk
          · rw [if_neg hkk] at hk
            rw [ht, gat_add, e2, if_neg (fun z => hkk z.symm)]
            exact h1 k hk
        · rw [valV_put] at hk
          by_cases hkk : k = ([.inr z, .inl x] : List Key)
          · rw [if_pos hkk] at hk
            cases hk
            refine ⟨q', rfl, hq0, ?_⟩
            rw [upd_same, ht, gat_add, e2, if_pos hkk.symm, hkk, g00, el]
          · rw [if_neg hkk] at hk
            obtain ⟨q1, rfl, n1, hq1⟩ := h2 k u hk
            refine ⟨q1, rfl, n1, ?_⟩
            rw [upd_ne (fr k q1 ⟨kvs, e1, hk⟩), upd_ne (ne_of hq1 e1 (fun z => nomatch z)), ht, gat_add, e2, if_neg (fun z => hkk z.symm)]
            exact hq1
        · rw [valV_put] at hk hj
          by_cases hkk : k = ([.inr z, .inl x] : List Key)
          · rw [if_pos hkk] at hk
            cases hk
            by_cases hjj : j = ([.inr z, .inl x] : List Key)
            · rw [hkk, hjj]
            · rw [if_neg hjj] at hj
              exact absurd rfl (fr j _ ⟨kvs, e1, hj⟩)
          · rw [if_neg hkk] at hk
            by_cases hjj : j = ([.inr z, .inl x] : List Key)
            · rw [if_pos hjj] at hj
              cases hj
              exact absurd rfl (fr k _ ⟨kvs, e1, hk⟩)
            · rw [if_neg hjj] at hj
              exact h3 k j q hk hj
    · rintro σ J ⟨y2, y3, y4, rfl, sm, g⟩
      rw [List.length_map, List.take_length] at g
      exact ⟨_, rfl, KQ d J sm g⟩
end
end Wb
namespace Wb
open PySem PySem.Spec PyProof.Rows L2 RZ Sg
/-! ### a web as it stands -/
def flds (pl ar mr ow bw : Addr) : List (Str × V) := putF "backward" (.ref bw) (putF "onward" (.ref ow) (putF "mark_rows" (.ref mr) (putF "arrow_rows" (.ref ar) (putF "places" (.ref pl) []))))
theorem flds_eq (pl ar mr ow bw : Addr) : flds pl ar mr ow bw = ([("places", V.ref pl), ("arrow_rows", V.ref ar), ("mark_rows", V.ref mr), ("onward", V.ref ow), ("backward", V.ref bw)] : List (Str × V)) := by
  rfl
/-- a dict of lists by two things -/
def GX (H : Hp) (d : Addr) (f : List Key → List V) : Prop := ∃ kvs, H d = some (.dT kvs) ∧ (∀ k, valV kvs k = none → f k = []) ∧ ∀ k v, valV kvs k = some v → ∃ q, v = .ref q ∧ H q = some (.lst (f k))
theorem GX.same {H H' : Hp} {d : Addr} {f : List Key → List V} (s : Same H H') (g : GX H d f) : GX H' d f := by
  obtain ⟨kvs, e, h1, h2⟩ := g
  refine ⟨kvs, s _ _ e, h1, fun k v hv => ?_⟩
  obtain ⟨q, eq, hq⟩ := h2 k v hv
  exact ⟨q, eq, s _ _ hq⟩
theorem GD.gx {H0 H : Hp} {d : Addr} {rows : List TK} (g : GD H0 H d rows) : GX H d (gat rows) := by
  obtain ⟨kvs, e, _, h1, h2, _⟩ := g.ex
  refine ⟨kvs, e, h1, fun k v hv => ?_⟩
  obtain ⟨q, eq, _, hq⟩ := h2 k v hv
  exact ⟨q, eq, hq⟩
def swK (k : List Key) : List Key := [k.getD 0 (.inl 0), k.getD 2 (.inl 0), k.getD 1 (.inl 0)]
theorem Xt.put {b : Addr} {H H' : Hp} {o : HO} (x : Xt b H H') : Xt b H (upd H' b o) := fun c u hc e => by
  rw [upd_ne hc]
  exact x c u hc e
theorem GX.xt {x C dx d : Addr} {fs : List (Str × V)} {H H' : Hp} {f : List Key → List V} (s : Xt x H H') (hx : H x = some (.ins C dx fs)) (g : GX H d f) : GX H' d f := by
  obtain ⟨kvs, e, h1, h2⟩ := g
  refine ⟨kvs, s _ _ (ne_of e hx (fun z => nomatch z)) e, h1, fun k v hv => ?_⟩
  obtain ⟨q, eq, hq⟩ := h2 k v hv
  exact ⟨q, eq, s _ _ (ne_of hq hx (fun z => nomatch z)) hq⟩
theorem xt_tup' {K : PySem.W.Frag} {x p : Addr} {ys : List V} {H H' : Hp} {xs : List V} (s : Xt x H H') (hx : H x = some (.lst ys)) (h : SqT K H p xs) : SqT K H' p xs := by
  rcases h with (h | ⟨o, h⟩) | h
  · exact .inl (.inl (s _ _ (ne_of h hx (fun z => nomatch z)) h))
  · exact .inl (.inr ⟨o, s _ _ (ne_of h hx (fun z => nomatch z)) h⟩)
  · exact .inr h
def GXn (H0 H : Hp) (d : Addr) (f : List Key → List V) : Prop := H0 d = none ∧ ∃ kvs, H d = some (.dT kvs) ∧ (∀ k, valV kvs k = none → f k = []) ∧ ∀ k v, valV kvs k = some v → ∃ q, v = .ref q ∧ H0 q = none ∧ H q = some (.lst (f k))
theorem GXn.gx {H0 H : Hp} {d : Addr} {f : List Key → List V} (g : GXn H0 H d f) : GX H d f := by
  obtain ⟨_, kvs, e, h1, h2⟩ := g
  refine ⟨kvs, e, h1, fun k v hv => ?_⟩
  obtain ⟨q, eq, _, hq⟩ := h2 k v hv
  exact ⟨q, eq, hq⟩
theorem GXn.keep {H0 H H' : Hp} {d : Addr} {f : List Key → List V} (g : GXn H0 H d f) (k : ∀ c o, H0 c = none → H c = some o → H' c = some o) : GXn H0 H' d f := by
  obtain ⟨n0, kvs, e, h1, h2⟩ := g
  refine ⟨n0, kvs, k _ _ n0 e, h1, fun z v hv => ?_⟩
  obtain ⟨q, eq, nq, hq⟩ := h2 z v hv
  exact ⟨q, eq, nq, k _ _ nq hq⟩
theorem GD.gxn {x C dx d : Addr} {fs : List (Str × V)} {H J J' : Hp} {rows : List TK} (g : GD J J' d rows) (s : Xt x H J) (hx : J x = some (.ins C dx fs)) : GXn H J' d (gat rows) := by
  obtain ⟨kvs, e, _, h1, h2, _⟩ := g.ex
  refine ⟨s.free (ne_of_none hx g.nd).symm g.nd, kvs, e, h1, fun k v hv => ?_⟩
  obtain ⟨q, eq, nq, hq⟩ := h2 k v hv
  exact ⟨q, eq, s.free (ne_of_none hx nq).symm nq, hq⟩
structure WebAt (C : Addr) (H : Hp) (x : Addr) (n : Int) (As Ms : List TK) : Prop where
  ex : ∃ dx pl ar mr ow bw, H x = some (.ins C dx (flds pl ar mr ow bw)) ∧ H pl = some (.lst (rgV 0 n)) ∧ H ar = some (.lst (refs As)) ∧ H mr = some (.lst (refs Ms)) ∧ GX H ow (gat As) ∧ ∃ Bs : List TK, Bs.map (·.2) = As.map (fun p => swK p.2) ∧ GX H bw (gat Bs)
theorem WebAt.same {C : Addr} {H H' : Hp} {x : Addr} {n : Int} {As Ms : List TK} (s : Same H H') (w : WebAt C H x n As Ms) : WebAt C H' x n As Ms := by
  obtain ⟨dx, pl, ar, mr, ow, bw, h1, h2, h3, h4, h5, Bs, h6, h7⟩ := w.ex
  exact ⟨dx, pl, ar, mr, ow, bw, s _ _ h1, s _ _ h2, s _ _ h3, s _ _ h4, h5.same s, Bs, h6, h7.same s⟩
/-- a web all of whose parts are new since H0 -/
def WebOwn (C : Addr) (H0 H : Hp) (x : Addr) (n : Int) (As Ms : List TK) : Prop := ∀ H', (∀ c o, H0 c = none ∨ c = x → H c = some o → H' c = some o) → WebAt C H' x n As Ms
/-- L holds the keys of ks, each once, rising -/
structure Srt (ks L : List TK) : Prop where
  of : ∀ p ∈ L, p ∈ ks
  all : ∀ p ∈ ks, p.2 ∈ L.map (·.2)
  nd : (L.map (·.2)).Nodup
  ris : L.Pairwise fun p q => ordOf 128 p ≤ ordOf 128 q
structure WT (K : PySem.W.Frag) (mg : Str → Option Value) (C : Addr) : Prop where
  cl : Cls K C
  n1 : NoAttr K C "places"
  n2 : NoAttr K C "arrow_rows"
  n3 : NoAttr K C "mark_rows"
  n4 : NoAttr K C "onward"
  n5 : NoAttr K C "backward"
  list : mg "list" = none
  range : mg "range" = none
  set : mg "set" = none
  sorted : mg "sorted" = none
  most : ∃ t, mg "MOST_POINTS" = some (.int 81 t)
theorem xt_tup {K : PySem.W.Frag} {x C dx p : Addr} {fs : List (Str × V)} {H H' : Hp} {xs : List V} (s : Xt x H H') (hx : H x = some (.ins C dx fs)) (h : SqT K H p xs) : SqT K H' p xs := by
  rcases h with (h | ⟨o, h⟩) | h
  · exact .inl (.inl (s _ _ (ne_of h hx (fun z => nomatch z)) h))
  · exact .inl (.inr ⟨o, s _ _ (ne_of h hx (fun z => nomatch z)) h⟩)
  · exact .inr h
theorem xt_lst {K : PySem.W.Frag} {x C dx p : Addr} {fs : List (Str × V)} {H H' : Hp} {xs : List V} (s : Xt x H H') (hx : H x = some (.ins C dx fs)) (h : SqL K H p xs) : SqL K H' p xs := by
  rcases h with (h | ⟨o, h⟩) | h
  · exact .inl (.inl (s _ _ (ne_of h hx (fun z => nomatch z)) h))
  · exact .inl (.inr ⟨o, s _ _ (ne_of h hx (fun z => nomatch z)) h⟩)
  · exact .inr h
theorem TL.xt {K : PySem.W.Frag} {x C dx l : Addr} {fs : List (Str × V)} {H H' : Hp} {ks : List TK} (s : Xt x H H') (hx : H x = some (.ins C dx fs)) (h : TL K H l ks) : TL K H' l ks :=
  ⟨h.1.imp (fun z => xt_lst s hx z) fun z => xt_tup s hx z, fun p hp => xt_tup s hx (h.2 p hp)⟩
theorem seq_fld {K : PySem.W.Frag} {tv ta : TE} {f : Str} {rest : TS} {D : Ends} {σ : L2.St} {H : Hp} (h : tv σ H fun y H1 => ta σ H1 fun x H2 => ∃ a C dx fs, x = .ref a ∧ H2 a = some (.ins C dx fs) ∧ Cls K C ∧ NoAttr K C f ∧ fs.length < 1000 ∧ rest D σ (upd H2 a (.ins C dx (putF f y fs)))) : tSeq (sFld K ta tv f) rest D σ H := h
theorem seq_drop {te : TE} {rest : TS} {D : Ends} {σ : L2.St} {H : Hp} (h : te σ H fun _ H1 => rest D σ H1) : tSeq (tDrop te) rest D σ H := h
theorem seq_if {c : TT} {t u rest : TS} {D : Ends} {σ : L2.St} {H : Hp} (h : c σ H fun b H1 => if b = true then tSeq t rest D σ H1 else tSeq u rest D σ H1) : tSeq (tIfS c t u) rest D σ H := h
theorem seq_next {rest : TS} {D : Ends} {σ : L2.St} {H : Hp} (h : rest D σ H) : tSeq tNext rest D σ H := h
theorem Srt.len {ks L : List TK} (h : Srt ks L) : L.length ≤ ks.length := by
  have := List.Nodup.length_le_of_subset h.nd (l₂ := ks.map (·.2)) (fun z hz => by
    obtain ⟨p, hp, rfl⟩ := List.mem_map.mp hz
    exact List.mem_map.mpr ⟨p, h.of p hp, rfl⟩)
  rwa [List.length_map, List.length_map] at this
theorem read_ss {P : Program} {w : World} {K : PySem.W.Frag} {i d : Nat} {σ : L2.St} {H : Hp} {Q : VK} {l : Addr} {ks : List TK} (hv : σ[i]? = some (some (.ref l))) (hT : TL K H l ks) (h64 : ks.length < 64) (tie : ∀ p ∈ ks, TieK 128 d p.2)
    (q : ∀ L p H', Srt ks L → Same H H' → H p = none → H' p = some (.lst (refs L)) → Q (.ref p) H') : tCB (rSortX K P w) (tCons (tCB (rSetX K P w) (tCons (tVar i) tNil)) tNil) σ H Q := by
  refine ⟨_, hv, l, ks, rfl, hT.1, hT.2, h64, fun a L na hL1 hL2 => ?_⟩
  have s1 : Same H (upd H a (SetX P w a L)) := same_upd na
  have e1 : (upd H a (SetX P w a L)) a = some (SetX P w a L) := upd_same
  generalize upd H a (SetX P w a L) = H1 at s1 e1 ⊢
  refine ⟨a, L, d, 128, rfl, .inl e1, fun p hp => same_tup s1 (hT.2 p (hL1 p hp)), fun p hp => tie p (hL1 p hp), fun L' p pm ris nd np => ?_⟩
  refine q L' p _ ⟨fun z hz => hL1 z (pm.mem_iff.mp hz), fun z hz => (pm.map _).mem_iff.mpr (hL2 z hz), nd e1, ris⟩ (s1.trans (same_upd np)) (s1.free np) upd_same
section
variable {P : Program} {w : World} {K : PySem.W.Frag} {mg : Str → Option Value} {base : Heap}
def spInit (K : PySem.W.Frag) (C : Addr) : Sp := fun vs H Q _ => ∃ x dx n la lm ka km, vs = [.ref x, .int n, .ref la, .ref lm] ∧ H x = some (.ins C dx []) ∧ 0 ≤ n ∧ n ≤ 81 ∧ TL K H la ka ∧ (∀ p ∈ ka, AK n p.2) ∧ ka.length < 64 ∧ TL K H lm km ∧ (∀ p ∈ km, MK n p.2) ∧ km.length < 64 ∧
  ∀ H' As Ms, WebOwn C H H' x n As Ms → Srt ka As → Srt km Ms → Xt x H H' → Q .non H'
abbrev NI : List Str := ["self", "points", "arrows", "marks", "colour", "start", "end"]
theorem scI : FnScope NI ["self", "points", "arrows", "marks"] (defScope sInit) := ⟨rfl, rfl, rfl, by decide +kernel, rfl, by decide +kernel, by decide +kernel⟩
theorem AK.r3 {n : Int} {k : List Key} (h : AK n k) : R3 k := by
  obtain ⟨c, x, y, e, _⟩ := h
  exact ⟨_, x, y, e⟩
set_option maxHeartbeats 4000000 in
theorem ok_init {f C fA fM fG : Addr} {fd dA dM dG : FuncData} {dvs : List V} {kws : List (Str × V)} (F : FunD K "__init__" "Web.__init__" (defArgs sInit) (defBody sInit) (defScope sInit) dvs kws f fd) (T : WT K mg C) (oA : Df P w K mg base 1 "refuse_bad_arrows" ["points", "arrows"] (spRA K) fA dA)
    (oM : Df P w K mg base 1 "refuse_bad_marks" ["points", "marks"] (spRM K) fM dM) (oG : Df P w K mg base 1 "gathered" ["rows"] (spGat K) fG dG) : FnOk P w K mg base CX0 2 f fd ["self", "points", "arrows", "marks"] (spInit K C) := by
  obtain ⟨tkM, gM⟩ := T.most
  refine F.ok scI (fun vs H Q E h => ?_) (fun cdv A outer s H vs Q E hr h => ?_)
  · obtain ⟨x, dx, n, la, lm, ka, km, rfl, _⟩ := h
    rfl
  · obtain ⟨x, dx, n, la, lm, ka, km, rfl, hx, n0, n1, ta, ga, la64, tm, gm, lm64, KQ⟩ := h
    have hu : (A.deeper (envOfC "Web.__init__" (defScope sInit) s.heap.objs.size f cdv)).units + 64 < cLine := by
      have := hr.un
      omega
    refine ⟨_, PSs.nox (pss_cons (ps_if (pt_not (pt_chain op_le op_le pe_int (pv 1) (pe_glob (v := .int 81) (by rfl) gM ⟨_, rfl⟩))) (pss_one ps_never) pss_nil)
      (pss_cons (ps_expr (pe_call oA.ok hr (by rfl) oA.gl oA.kp oA.bd .nil pass0 (pa_cons (pv 1) (pa_cons (pv 2) pa_nil))))
      (pss_cons (ps_expr (pe_call oM.ok hr (by rfl) oM.gl oM.kp oM.bd .nil pass0 (pa_cons (pv 1) (pa_cons (pv 3) pa_nil))))
      (pss_cons (ps_fld (pv 0) (pe_listRg rfl (by rfl) T.list (prg_1 (by rfl) T.range (pv 1))) rfl)
      (pss_cons (ps_fld (pv 0) (pe_callB (cr_sortX rfl) (by rfl) T.sorted (by decide +kernel) (pa_cons (pe_callTy (cr_setX rfl hu) (by rfl) T.set (by decide +kernel) (pa_cons (pv 2) pa_nil)) pa_nil)) rfl)
      (pss_cons (ps_fld (pv 0) (pe_callB (cr_sortX rfl) (by rfl) T.sorted (by decide +kernel) (pa_cons (pe_callTy (cr_setX rfl hu) (by rfl) T.set (by decide +kernel) (pa_cons (pv 3) pa_nil)) pa_nil)) rfl)
      (pss_cons (ps_fld (pv 0) (pe_call oG.ok hr (by rfl) oG.gl oG.kp oG.bd .nil pass0 (pa_cons (pe_fld (pv 0) rfl) pa_nil)) rfl)
      (pss_one (ps_fld (pv 0) (pe_call oG.ok hr (by rfl) oG.gl oG.kp oG.bd .nil pass0 (pa_cons
        (pe_lc (own := [("colour", 4), ("start", 5), ("end", 6)]) (g := gTup K 3 (gCons (gName 4) (gCons (gName 5) (gCons (gName 6) gNil)))) (tt := tYes) rfl scI.nd (pi_list (pe_fld (pv 0) rfl)) (blkOk_by (N := NI) (sc := defScope sInit) (by decide +kernel))
          (fun _ _ _ _ _ => pg_tup rfl (pgs_cons (pg_name (i := 4) scI.nd rfl (.inl rfl)) (pgs_cons (pg_name (i := 5) scI.nd rfl (.inl rfl)) (pgs_cons (pg_name (i := 6) scI.nd rfl (.inl rfl)) pgs_nil)))) (fun _ _ _ _ _ => pts_nil)
          (fun _ _ _ _ _ => pe_tup (pa_cons (pv 4) (pa_cons (pv 6) (pa_cons (pv 5) pa_nil)))))
        pa_nil)) rfl))))))))), ?_⟩
    refine seq_if ⟨_, rfl, _, _, rfl, rfl, _, rfl, ?_⟩
    rw [decide_eq_true (show (0 : Int) ≤ n from n0)]
    refine iteT ⟨_, _, rfl, rfl, _, rfl, ?_⟩
    rw [decide_eq_true (show n ≤ (81 : Int) from n1)]
    refine iteF ?_
    refine seq_next ?_
    refine seq_drop ⟨_, rfl, _, rfl, n, la, ka, rfl, ta, ga, fun H1 s1 => ?_⟩
    refine seq_drop ⟨_, rfl, _, rfl, n, lm, km, rfl, tm.same s1, gm, fun H2 s2 => ?_⟩
    have hx2 := s2 _ _ (s1 _ _ hx)
    have ta2 := (ta.same s1).same s2
    have tm2 := (tm.same s1).same s2
    have x2 : Xt x H H2 := Same.xt (s1.trans s2)
    generalize H2 = J at hx2 ta2 tm2 x2 ⊢
    clear s1 s2 ta tm
    refine seq_fld ⟨_, rfl, n, rfl, RgOk.of_le (Int.le_refl 0) (by omega) (by decide) n0, fun pl npl => ⟨_, rfl, x, C, dx, [], rfl, same_upd npl _ _ hx2, T.cl, T.n1, by decide, ?_⟩⟩
    have dpl : pl ≠ x := (ne_of_none hx2 npl).symm
    have fpl : H pl = none := x2.free dpl npl
    have x3 : Xt x H (upd (upd J pl (.lst (rgV 0 n))) x (.ins C dx (putF "places" (.ref pl) []))) := (x2.new npl).put
    have h3x : (upd (upd J pl (.lst (rgV 0 n))) x (.ins C dx (putF "places" (.ref pl) []))) x = some (.ins C dx (putF "places" (.ref pl) [])) := upd_same
    have h3p : (upd (upd J pl (.lst (rgV 0 n))) x (.ins C dx (putF "places" (.ref pl) []))) pl = some (.lst (rgV 0 n)) := by
      rw [upd_ne dpl]
      exact upd_same
    have ta3 : TL K (upd (upd J pl (.lst (rgV 0 n))) x (.ins C dx (putF "places" (.ref pl) []))) la ka := ta2.xt (((Xt.refl x J).new npl).put) hx2
    have tm3 : TL K (upd (upd J pl (.lst (rgV 0 n))) x (.ins C dx (putF "places" (.ref pl) []))) lm km := tm2.xt (((Xt.refl x J).new npl).put) hx2
    generalize upd (upd J pl (.lst (rgV 0 n))) x (.ins C dx (putF "places" (.ref pl) [])) = J3 at x3 h3x h3p ta3 tm3 ⊢
    refine seq_fld (read_ss rfl ta3 la64 (fun p hp => (ga p hp).tie (by omega)) fun As ar J4 sA s4 nar har => ⟨_, rfl, x, C, dx, _, rfl, s4 _ _ h3x, T.cl, T.n2, (show (1 : Nat) < 1000 by decide), ?_⟩)
    have dar : ar ≠ x := (ne_of_none h3x nar).symm
    have far : H ar = none := x3.free dar nar
    have y4 : Xt x J3 (upd J4 x (.ins C dx (putF "arrow_rows" (.ref ar) (putF "places" (.ref pl) [])))) := (Same.xt s4).put
    have h5x : (upd J4 x (.ins C dx (putF "arrow_rows" (.ref ar) (putF "places" (.ref pl) [])))) x = some (.ins C dx (putF "arrow_rows" (.ref ar) (putF "places" (.ref pl) []))) := upd_same
    have h5a : (upd J4 x (.ins C dx (putF "arrow_rows" (.ref ar) (putF "places" (.ref pl) [])))) ar = some (.lst (refs As)) := by
      rw [upd_ne dar]
      exact har
    generalize upd J4 x (.ins C dx (putF "arrow_rows" (.ref ar) (putF "places" (.ref pl) []))) = J5 at y4 h5x h5a ⊢
    have x5 := x3.trans y4
    have h5p := y4 _ _ dpl h3p
    have tm5 := tm3.xt y4 h3x
    have ta5 := ta3.xt y4 h3x
    clear ta3 tm3 x3 y4 s4 h3x h3p nar
    refine seq_fld (read_ss rfl tm5 lm64 (fun p hp => (gm p hp).tie (by omega)) fun Ms mr J6 sM s6 nmr hmr => ⟨_, rfl, x, C, dx, _, rfl, s6 _ _ h5x, T.cl, T.n3, (show (2 : Nat) < 1000 by decide), ?_⟩)
    have dmr : mr ≠ x := (ne_of_none h5x nmr).symm
    have fmr : H mr = none := x5.free dmr nmr
    have y6 : Xt x J5 (upd J6 x (.ins C dx (putF "mark_rows" (.ref mr) (putF "arrow_rows" (.ref ar) (putF "places" (.ref pl) []))))) := (Same.xt s6).put
    have h7x : (upd J6 x (.ins C dx (putF "mark_rows" (.ref mr) (putF "arrow_rows" (.ref ar) (putF "places" (.ref pl) []))))) x = some (.ins C dx (putF "mark_rows" (.ref mr) (putF "arrow_rows" (.ref ar) (putF "places" (.ref pl) [])))) := upd_same
    have h7m : (upd J6 x (.ins C dx (putF "mark_rows" (.ref mr) (putF "arrow_rows" (.ref ar) (putF "places" (.ref pl) []))))) mr = some (.lst (refs Ms)) := by
      rw [upd_ne dmr]
      exact hmr
    generalize upd J6 x (.ins C dx (putF "mark_rows" (.ref mr) (putF "arrow_rows" (.ref ar) (putF "places" (.ref pl) [])))) = J7 at y6 h7x h7m ⊢
    have x7 := x5.trans y6
    have h7p := y6 _ _ dpl h5p
    have h7a := y6 _ _ dar h5a
    have ta7 := ta5.xt y6 h5x
    clear tm5 ta5 x5 y6 s6 h5x h5p h5a nmr hmr
    have hAs : ∀ p ∈ As, SqT K J7 p.1 (p.2.map kV) ∧ R3 p.2 := fun p hp => ⟨ta7.2 p (sA.of p hp), (ga p (sA.of p hp)).r3⟩
    have lA : As.length < 64 := Nat.lt_of_le_of_lt sA.len la64
    refine seq_fld ⟨_, rfl, x, C, dx, _, _, rfl, h7x, T.cl, T.n2, rfl, ar, As, rfl, SqL.of h7a, hAs, by omega, fun ow J8 s8 gd => ⟨_, rfl, x, C, dx, _, rfl, s8 _ _ h7x, T.cl, T.n4, (show (3 : Nat) < 1000 by decide), ?_⟩⟩
    have dow : ow ≠ x := (ne_of_none h7x gd.nd).symm
    have gx8 : GXn H J8 ow (gat As) := gd.gxn x7 h7x
    have nx : ∀ c, H c = none → c ≠ x := fun c hc => (ne_of_none hx hc).symm
    have y8 : Xt x J7 (upd J8 x (.ins C dx (putF "onward" (.ref ow) (putF "mark_rows" (.ref mr) (putF "arrow_rows" (.ref ar) (putF "places" (.ref pl) [])))))) := (Same.xt s8).put
    have h9x : (upd J8 x (.ins C dx (putF "onward" (.ref ow) (putF "mark_rows" (.ref mr) (putF "arrow_rows" (.ref ar) (putF "places" (.ref pl) [])))))) x = some (.ins C dx (putF "onward" (.ref ow) (putF "mark_rows" (.ref mr) (putF "arrow_rows" (.ref ar) (putF "places" (.ref pl) []))))) := upd_same
    have gx9 : GXn H (upd J8 x (.ins C dx (putF "onward" (.ref ow) (putF "mark_rows" (.ref mr) (putF "arrow_rows" (.ref ar) (putF "places" (.ref pl) [])))))) ow (gat As) := gx8.keep fun c o hc e => (Xt.refl x J8).put c o (nx c hc) e
    generalize upd J8 x (.ins C dx (putF "onward" (.ref ow) (putF "mark_rows" (.ref mr) (putF "arrow_rows" (.ref ar) (putF "places" (.ref pl) []))))) = J9 at y8 h9x gx9 ⊢
    have x9 := x7.trans y8
    have h9p := y8 _ _ dpl h7p
    have h9a := y8 _ _ dar h7a
    have h9m := y8 _ _ dmr h7m
    have hA9 : ∀ p ∈ As, SqT K J9 p.1 (p.2.map kV) ∧ R3 p.2 := fun p hp => ⟨xt_tup y8 h7x (hAs p hp).1, (hAs p hp).2⟩
    clear x7 y8 h7x h7p h7a h7m ta7 hAs gx8 gd s8
    refine ⟨_, rfl, x, C, dx, _, _, rfl, h9x, T.cl, T.n2, rfl, ar, rfl, ⟨_, SqL.of h9a⟩, fun D nD => ?_⟩
    refine lc_list (xs := refs As) (fun i J => ∃ Bs : List TK, J D = some (.lst (refs Bs)) ∧ Bs.map (·.2) = (As.take i).map (fun p => swK p.2) ∧ (∀ p ∈ Bs, SqT K J p.1 (p.2.map kV) ∧ R3 p.2) ∧ Same J9 J) ⟨[], upd_same, rfl, (fun p hp => nomatch hp), same_upd nD⟩ ?_ ?_ ?_
    · rintro i J _ ⟨Bs, _, _, _, sm⟩
      exact sm.seq (SqL.of h9a)
    · rintro i v J hv ⟨Bs, hB, eB, hK, sm⟩
      have hik : i < As.length := by
        have := (List.getElem?_eq_some_iff.mp hv).1
        rwa [List.length_map] at this
      have gi : (refs As)[i]? = some (.ref As[i].1) := by
        rw [List.getElem?_map, List.getElem?_eq_getElem hik]
        rfl
      cases hv.symm.trans gi
      have hm : As[i] ∈ As := List.getElem_mem hik
      obtain ⟨hq, z, a, b, ek⟩ := hA9 _ hm
      have sq := same_tup sm hq
      rw [ek] at sq
      have ht : As.take (i + 1) = As.take i ++ [As[i]] := by
        rw [List.take_add_one, List.getElem?_eq_getElem hik]
        rfl
      have lB : Bs.length ≤ 64 := by
        have := congrArg List.length eB
        rw [List.length_map, List.length_map, List.length_take] at this
        omega
      refine ⟨As[i].1, [.str z, .int a, .int b], rfl, sq, rfl, .str z, [.int a, .int b], rfl, .int a, [.int b], rfl, .int b, [], rfl, rfl, rfl, ?_⟩
      unfold tYes
      refine Eq.mpr (if_pos rfl) ?_
      refine ⟨_, rfl, _, rfl, _, rfl, by show 3 ≤ sizeLine; decide, fun tp nt => ?_⟩
      have dD : D ≠ tp := ne_of_none hB nt
      have eD : (upd J tp (.tup [.str z, .int b, .int a])) D = some (.lst (refs Bs)) := by
        rw [upd_ne dD]
        exact hB
      have et : (upd J tp (.tup [.str z, .int b, .int a])) tp = some (.tup (([.inr z, .inl b, .inl a] : List Key).map kV)) := upd_same
      have st : Same J (upd J tp (.tup [.str z, .int b, .int a])) := same_upd nt
      generalize upd J tp (.tup [.str z, .int b, .int a]) = J' at eD et st ⊢
      refine ⟨refs Bs, eD, by rw [List.length_map]; exact Nat.lt_of_le_of_lt lB (by decide), Bs ++ [(tp, [.inr z, .inl b, .inl a])], ?_, ?_, ?_, ?_⟩
      · rw [upd_same]
        show _ = some (HO.lst (List.map _ (Bs ++ [_])))
        rw [List.map_append]
        rfl
      · rw [List.map_append, eB, ht, List.map_append]
        show _ ++ [_] = _ ++ [swK As[i].2]
        rw [ek]
        rfl
      · intro p hp
        rcases List.mem_append.mp hp with hp | hp
        · exact ⟨xt_tup' ((Same.xt st).put) hB (hK p hp).1, (hK p hp).2⟩
        · rw [List.mem_singleton] at hp
          subst hp
          refine ⟨SqT.of ?_, z, b, a, rfl⟩
          rw [upd_ne (ne_of et eD (fun z => nomatch z))]
          exact et
      · intro c o hc
        rw [upd_ne (ne_of_none hc nD)]
        exact st _ _ (sm _ _ hc)
    · rintro J ⟨Bs, hB, eB, hK, sm⟩
      rw [List.length_map, List.take_length] at eB
      have lB : Bs.length ≤ 64 := by
        have := congrArg List.length eB
        rw [List.length_map, List.length_map] at this
        omega
      refine ⟨D, Bs, rfl, SqL.of hB, hK, by omega, fun bw J' s' gd => ⟨_, rfl, x, C, dx, _, rfl, s' _ _ (sm _ _ h9x), T.cl, T.n5, (show (4 : Nat) < 1000 by decide), ?_⟩⟩
      have z9 : Xt x J9 (upd J' x (.ins C dx (flds pl ar mr ow bw))) := (Same.xt (sm.trans s')).put
      have gw : GXn H (upd J' x (.ins C dx (flds pl ar mr ow bw))) ow (gat As) := gx9.keep fun c o hc e => z9 c o (nx c hc) e
      have gb : GXn H (upd J' x (.ins C dx (flds pl ar mr ow bw))) bw (gat Bs) := (gd.gxn (x9.trans (Same.xt sm)) (sm _ _ h9x)).keep fun c o hc e => (Xt.refl x J').put c o (nx c hc) e
      exact KQ _ As Ms (fun H'' kp => ⟨dx, pl, ar, mr, ow, bw, kp _ _ (.inr rfl) upd_same, kp _ _ (.inl fpl) (z9 _ _ dpl h9p), kp _ _ (.inl far) (z9 _ _ dar h9a), kp _ _ (.inl fmr) (z9 _ _ dmr h9m), (gw.keep fun c o hc e => kp c o (.inl hc) e).gx, Bs, eB, (gb.keep fun c o hc e => kp c o (.inl hc) e).gx⟩) sA sM (x9.trans z9)
end
end Wb
namespace Wb
open PySem PySem.Spec PyProof.Rows L2 RZ Sg
abbrev sMixed : Stmt := topS 18
abbrev sUnlike : Stmt := topS 20
abbrev sSign : Stmt := topS 22
section
variable {P : Program} {w : World} {K : PySem.W.Frag} {mg : Str → Option Value} {base : Heap}
/-! ### what a web tells -/
def spPts (C : Addr) : Sp := fun vs H Q _ => ∃ x n As Ms, vs = [.ref x] ∧ WebAt C H x n As Ms ∧ 0 ≤ n ∧ Q (.int n) H
theorem scPt : FnScope ["self"] ["self"] (defScope sPoints) := ⟨rfl, rfl, rfl, by decide +kernel, rfl, by decide +kernel, by decide +kernel⟩
theorem ok_pts {f C : Addr} {fd : FuncData} (F : Fun K "points" "Web.points" sPoints f fd) (T : WT K mg C) (ml : mg "len" = none) : FnOk P w K mg base CX0 1 f fd ["self"] (spPts C) := by
  refine F.ok scPt (fun vs H Q E h => ?_) (fun cdv A outer s H vs Q E hr h => ?_)
  · obtain ⟨x, n, As, Ms, rfl, _⟩ := h
    rfl
  · obtain ⟨x, n, As, Ms, rfl, W, n0, KQ⟩ := h
    refine ⟨_, pss_one (ps_ret (pe_callB call_len_seq (by rfl) ml PySem.boot_len (pa_cons (pe_fld (pv 0) rfl) pa_nil))), ?_⟩
    obtain ⟨dx, pl, ar, mr, ow, bw, h1, h2, _⟩ := W.ex
    refine ret_of ⟨_, rfl, x, C, dx, _, _, rfl, h1, T.cl, T.n1, rfl, pl, _, rfl, .inl (SqL.of h2), ?_⟩
    have : ((rgV 0 n).length : Int) = n := by
      unfold rgV
      rw [List.length_map, List.length_range]
      omega
    rw [this]
    exact KQ
def spArr (C : Addr) : Sp := fun vs H Q _ => ∃ x n As Ms, vs = [.ref x] ∧ WebAt C H x n As Ms ∧ ∀ p, H p = none → Q (.ref p) (upd H p (.lst (refs As)))
theorem scAr : FnScope ["self"] ["self"] (defScope sArrows) := ⟨rfl, rfl, rfl, by decide +kernel, rfl, by decide +kernel, by decide +kernel⟩
theorem ok_arr {f C : Addr} {fd : FuncData} (F : Fun K "arrows" "Web.arrows" sArrows f fd) (T : WT K mg C) : FnOk P w K mg base CX0 1 f fd ["self"] (spArr C) := by
  refine F.ok scAr (fun vs H Q E h => ?_) (fun cdv A outer s H vs Q E hr h => ?_)
  · obtain ⟨x, n, As, Ms, rfl, _⟩ := h
    rfl
  · obtain ⟨x, n, As, Ms, rfl, W, KQ⟩ := h
    refine ⟨_, pss_one (ps_ret (pe_callTy call_list_of (by rfl) T.list boot_list (pa_cons (pe_fld (pv 0) rfl) pa_nil))), ?_⟩
    obtain ⟨dx, pl, ar, mr, ow, bw, h1, _, h3, _⟩ := W.ex
    exact ret_of ⟨_, rfl, x, C, dx, _, _, rfl, h1, T.cl, T.n2, rfl, ar, _, rfl, .inl (SqL.of h3), fun p np => KQ p np⟩
def spMrk (C : Addr) : Sp := fun vs H Q _ => ∃ x n As Ms, vs = [.ref x] ∧ WebAt C H x n As Ms ∧ ∀ p, H p = none → Q (.ref p) (upd H p (.lst (refs Ms)))
theorem scMr : FnScope ["self"] ["self"] (defScope sMarks) := ⟨rfl, rfl, rfl, by decide +kernel, rfl, by decide +kernel, by decide +kernel⟩
theorem ok_mrk {f C : Addr} {fd : FuncData} (F : Fun K "marks" "Web.marks" sMarks f fd) (T : WT K mg C) : FnOk P w K mg base CX0 1 f fd ["self"] (spMrk C) := by
  refine F.ok scMr (fun vs H Q E h => ?_) (fun cdv A outer s H vs Q E hr h => ?_)
  · obtain ⟨x, n, As, Ms, rfl, _⟩ := h
    rfl
  · obtain ⟨x, n, As, Ms, rfl, W, KQ⟩ := h
    refine ⟨_, pss_one (ps_ret (pe_callTy call_list_of (by rfl) T.list boot_list (pa_cons (pe_fld (pv 0) rfl) pa_nil))), ?_⟩
    obtain ⟨dx, pl, ar, mr, ow, bw, h1, _, _, h4, _⟩ := W.ex
    exact ret_of ⟨_, rfl, x, C, dx, _, _, rfl, h1, T.cl, T.n3, rfl, mr, _, rfl, .inl (SqL.of h4), fun p np => KQ p np⟩
/-! ### things in any order -/
theorem bx_nr {H : Hp} {b q l : Addr} {ks : List TK} (B : Bx H b q) (h : H l = some (.lst (refs ks))) : l ≠ b := fun e => by
  subst e
  obtain ⟨ns, i, r, k, hb, _⟩ := B
  rw [h] at hb
  injection hb with hb
  injection hb with hb
  match ks, hb with
  | [], hb => cases hb
  | [_], hb => cases hb
  | _ :: _ :: _, hb => cases hb
def spMix : Sp := fun vs H Q _ => ∃ b q l ks, vs = [.ref b, .ref l] ∧ Bx H b q ∧ H l = some (.lst (refs ks)) ∧ ks.length < 64 ∧ ∀ p L H', H p = none → H' p = some (.lst (refs L)) → L.Perm ks → Bx H' b q → Xt b H H' → Q (.ref p) H'
theorem scMx : FnScope ["_law_box_here", "_law_some", "_law_found", "_law_one_here"] ["_law_box_here", "_law_some"] (defScope sMixed) := ⟨rfl, rfl, rfl, by decide +kernel, rfl, by decide +kernel, by decide +kernel⟩
set_option maxHeartbeats 2000000 in
theorem ok_mix {f fT : Addr} {fd fdT : FuncData} (F : Fun K "_law_mixed" "_law_mixed" sMixed f fd) (ml : mg "len" = none) (T : Df P w K mg base 1 "_law_take" ["_law_box_here", "_law_many"] spTake fT fdT) : FnOk P w K mg base CX0 2 f fd ["_law_box_here", "_law_some"] spMix := by
  refine F.ok scMx (fun vs H Q E h => ?_) (fun cdv A outer s H vs Q E hr h => ?_)
  · obtain ⟨b, q, l, ks, rfl, _⟩ := h
    rfl
  · obtain ⟨b, q, l, ks, rfl, B, hl, h64, KQ⟩ := h
    refine ⟨_, pss_cons (ps_set (i := 2) scMx.nd rfl (.inl rfl) (pe_lst pa_nil))
      (pss_cons (ps_for PassesOwn.never rfl (pi_list (pv 1)) (pg_name (i := 3) scMx.nd rfl (.inl rfl))
        (pss_one (ps_expr (pe_bm PySem.F.plainAttrs_list PySem.F.slot_list_insert PySem.F.type_list_insert mt_insert (pv 2)
          (pa_cons (pe_call T.ok hr (by rfl) T.gl T.kp T.bd .nil pass0 (pa_cons (pv 0) (pa_cons (pe_op op_add (pe_callB call_len_seq (by rfl) ml PySem.boot_len (pa_cons (pv 2) pa_nil)) pe_int) pa_nil))) (pa_cons (pv 3) pa_nil))))))
      (pss_one (ps_ret (pv 2)))), ?_⟩
    refine seq_set ⟨Nat.zero_le _, fun D nD => ?_⟩
    have dD : D ≠ b := B.ne nD
    have lb : l ≠ b := bx_nr B hl
    have B0 := B.new (o := .lst []) nD
    have x0 := (Xt.refl b H).new (o := .lst []) nD
    have e0 : (upd H D (.lst [])) D = some (.lst (refs [])) := upd_same
    generalize upd H D (.lst []) = H0 at B0 x0 e0 ⊢
    refine ⟨_, rfl, l, rfl, ⟨_, SqL.of (x0 _ _ lb hl)⟩, for_list (xs := refs ks) (fun i σ J => ∃ y3 L, σ = [some (.ref b), some (.ref l), some (.ref D), y3] ∧ J D = some (.lst (refs L)) ∧ L.Perm (ks.take i) ∧ Bx J b q ∧ Xt b H J) ⟨_, [], rfl, e0, List.Perm.refl _, B0, x0⟩ ?_ ?_ ?_⟩
    · rintro i σ J _ ⟨y3, L, _, _, _, _, x1⟩
      exact SqL.of (x1 _ _ lb hl)
    · rintro i v σ J hv ⟨y3, L, rfl, hD, pm, B1, x1⟩
      have hik : i < ks.length := by
        have := (List.getElem?_eq_some_iff.mp hv).1
        rwa [List.length_map] at this
      have gi : (refs ks)[i]? = some (.ref ks[i].1) := by
        rw [List.getElem?_map, List.getElem?_eq_getElem hik]
        rfl
      cases hv.symm.trans gi
      have ht : ks.take (i + 1) = ks.take i ++ [ks[i]] := by
        rw [List.take_add_one, List.getElem?_eq_getElem hik]
        rfl
      have lL : L.length = i := by
        rw [pm.length_eq, List.length_take]
        omega
      have lL' : (refs L).length = i := by rw [List.length_map, lL]
      refine ⟨_, rfl, .inl ⟨rfl, _, SqL.of hD⟩, _, rfl, _, rfl, D, _, rfl, .inl (SqL.of hD), _, 1, rfl, rfl, b, q, _, rfl, B1, by omega, by omega, fun z J' z0 z1 B2 kp => ?_⟩
      have hD' : J' D = some (.lst (refs L)) := by
        rw [kp D dD]
        exact hD
      refine ⟨_, rfl, D, refs L, z, _, rfl, rfl, hD', small1000 (by omega), z0, by omega, ?_⟩
      refine ⟨_, L.take z.toNat ++ [ks[i]] ++ L.drop z.toNat, rfl, ?_, ?_, B2.upd dD (B.neq nD), ?_⟩
      · rw [upd_same]
        simp only [List.map_append, List.map_take, List.map_drop]
        rfl
      · rw [ht, List.append_assoc]
        refine List.perm_middle.trans ?_
        show (ks[i] :: (L.take z.toNat ++ L.drop z.toNat)).Perm _
        rw [List.take_append_drop]
        exact (List.Perm.cons _ pm).trans (List.perm_append_singleton _ _).symm
      · intro c o hc ec
        rw [upd_ne (ne_of_none ec nD), kp c hc]
        exact x1 c o hc ec
    · rintro σ J ⟨y3, L, rfl, hD, pm, B1, x1⟩
      rw [List.length_map, List.take_length] at pm
      exact ⟨_, rfl, KQ D L J nD hD pm B1 x1⟩
/-! ### each once, rising -/
theorem Srt.strict {ks U : List TK} (h1 : ∀ p ∈ U, p ∈ ks) (h2 : ∀ p ∈ ks, p.2 ∈ U.map (·.2)) (h3 : (U.map (ordOf 128)).Pairwise (· < ·)) : Srt ks U := by
  refine ⟨h1, h2, ?_, ?_⟩
  · rw [List.pairwise_map] at h3
    unfold List.Nodup
    rw [List.pairwise_map]
    refine h3.imp fun {p q} h e => ?_
    have : ordOf 128 p = ordOf 128 q := by
      show TS.code 128 (p.2.map numK) = TS.code 128 (q.2.map numK)
      rw [e]
    omega
  · rw [List.pairwise_map] at h3
    exact h3.imp fun h => Int.le_of_lt h
def spUnl (K : PySem.W.Frag) : Sp := fun vs H Q _ => ∃ l ks d, vs = [.ref l] ∧ H l = some (.lst (refs ks)) ∧ (∀ p ∈ ks, SqT K H p.1 (p.2.map kV)) ∧ (∀ p ∈ ks, TieK 128 d p.2) ∧ ks.length < 64 ∧ ∀ p U H', H p = none → H' p = some (.lst (refs U)) → Srt ks U → Same H H' → Q (.ref p) H'
theorem scU : FnScope ["_law_some", "_law_found", "_law_one_here"] ["_law_some"] (defScope sUnlike) := ⟨rfl, rfl, rfl, by decide +kernel, rfl, by decide +kernel, by decide +kernel⟩
set_option maxHeartbeats 2000000 in
theorem ok_unl {f : Addr} {fd : FuncData} (F : Fun K "_law_unlike" "_law_unlike" sUnlike f fd) (ms : mg "sorted" = none) : FnOk P w K mg base CX0 1 f fd ["_law_some"] (spUnl K) := by
  refine F.ok scU (fun vs H Q E h => ?_) (fun cdv A outer s H vs Q E hr h => ?_)
  · obtain ⟨l, ks, d, rfl, _⟩ := h
    rfl
  · obtain ⟨l, ks, d, rfl, hl, hq, ht, h64, KQ⟩ := h
    have hu : (A.deeper (envOfC "_law_unlike" (defScope sUnlike) s.heap.objs.size f cdv)).units + 64 < cLine := by
      have := hr.un
      omega
    refine ⟨_, pss_cons (ps_set (i := 1) scU.nd rfl (.inl rfl) (pe_lst pa_nil))
      (pss_cons (ps_for PassesOwn.never rfl (pi_list (pe_callB (cr_sortX rfl) (by rfl) ms (by decide +kernel) (pa_cons (pv 0) pa_nil))) (pg_name (i := 2) scU.nd rfl (.inl rfl))
        (pss_one (ps_if (PW.pt (pw_or (pt_cmpR (op_eqD hu) (pv 1) (pe_lst pa_nil) (by rfl)) (pw_or1 (pt_cmpR (op_neD hu) (pe_ix ix_list (pv 1) (pe_un un_neg pe_int) (fun _ _ => rfl)) (pv 2) (by rfl)))))
          (pss_one (ps_expr (pe_bm PySem.F.plainAttrs_list PySem.F.slot_list_append PySem.F.type_list_append mt_append (pv 1) (pa_cons (pv 2) pa_nil)))) pss_nil)))
      (pss_one (ps_ret (pv 1)))), ?_⟩
    refine seq_set ⟨Nat.zero_le _, fun D nD => ?_⟩
    have s0 : Same H (upd H D (.lst [])) := same_upd nD
    have e0 : (upd H D (.lst [])) D = some (.lst (refs [])) := upd_same
    generalize upd H D (.lst []) = H0 at s0 e0 ⊢
    refine ⟨_, rfl, l, ks, d, 128, rfl, .inr ⟨SqL.of (s0 _ _ hl), h64⟩, fun p hp => same_tup s0 (hq p hp), ht, fun L p pm ris _ np => ?_⟩
    have s1 : Same H0 (upd H0 p (.lst (refs L))) := same_upd np
    have e1 : (upd H0 p (.lst (refs L))) p = some (.lst (refs L)) := upd_same
    generalize upd H0 p (.lst (refs L)) = H1 at s1 e1 ⊢
    have s01 := s0.trans s1
    have qL : ∀ z ∈ L, SqT K H1 z.1 (z.2.map kV) := fun z hz => same_tup s01 (hq z (pm.mem_iff.mp hz))
    have tL : ∀ z ∈ L, TieK 128 d z.2 := fun z hz => ht z (pm.mem_iff.mp hz)
    refine ⟨p, rfl, ⟨_, SqL.of e1⟩, for_list (xs := refs L) (fun i σ J => ∃ y2 U, σ = [some (.ref l), some (.ref D), y2] ∧ J D = some (.lst (refs U)) ∧ (∀ z ∈ U, z ∈ L.take i) ∧ (∀ z ∈ L.take i, z.2 ∈ U.map (·.2)) ∧ (U.map (ordOf 128)).Pairwise (· < ·) ∧ (∀ c o, c ≠ D → H1 c = some o → J c = some o)) ⟨_, [], rfl, s1 _ _ e0, (fun z hz => nomatch hz), (fun z hz => nomatch hz), List.Pairwise.nil, fun c o _ h => h⟩ ?_ ?_ ?_⟩
    · rintro i σ J _ ⟨y2, U, _, _, _, _, _, sm⟩
      exact SqL.of (sm _ _ (ne_of_none e0 np).symm e1)
    · rintro i v σ J hv ⟨y2, U, rfl, hD, u1, u2, u3, sm⟩
      have hik : i < L.length := by
        have := (List.getElem?_eq_some_iff.mp hv).1
        rwa [List.length_map] at this
      have gi : (refs L)[i]? = some (.ref L[i].1) := by
        rw [List.getElem?_map, List.getElem?_eq_getElem hik]
        rfl
      cases hv.symm.trans gi
      have hti : L.take (i + 1) = L.take i ++ [L[i]] := by
        rw [List.take_add_one, List.getElem?_eq_getElem hik]
        rfl
      have tU : ∀ z ∈ U, TieK 128 d z.2 := fun z hz => tL z (List.mem_of_mem_take (u1 z hz))
      have tx : TieK 128 d L[i].2 := tL _ (List.getElem_mem hik)
      have le : ∀ z ∈ U, ordOf 128 z ≤ ordOf 128 L[i] := fun z hz => by
        have r2 := ris
        rw [← List.take_append_drop i L] at r2
        refine (List.pairwise_append.mp r2).2.2 z (u1 z hz) L[i] ?_
        rw [List.drop_eq_getElem_cons hik]
        exact List.mem_cons_self ..
      have lU : U.length < 1000 := by
        have h1 : (U.map (·.2)).Nodup := (Srt.strict (ks := L.take i) u1 u2 u3).nd
        have h2 := (Srt.strict (ks := L.take i) u1 u2 u3).len
        rw [List.length_take] at h2
        have h3 := pm.length_eq
        omega
      refine ⟨_, rfl, Nat.zero_le _, fun e ne => ?_⟩
      have dDe : D ≠ e := ne_of_none hD ne
      have eD : (upd J e (.lst [])) D = some (.lst (refs U)) := by
        rw [upd_ne dDe]
        exact hD
      have ee : (upd J e (.lst [])) e = some (.lst []) := upd_same
      have se : Same J (upd J e (.lst [])) := same_upd ne
      generalize upd J e (.lst []) = J1 at eD ee se ⊢
      have qx : ∀ z ∈ L, SqT K J1 z.1 (z.2.map kV) := fun z hz => same_tup se (xt_tup' (fun c o hc h => sm c o hc h) (s1 _ _ e0) (qL z hz))
      have qU : ∀ z ∈ U, SqT K J1 z.1 (z.2.map kV) := fun z hz => qx z (List.mem_of_mem_take (u1 z hz))
      have sm1 : ∀ c o, c ≠ D → H1 c = some o → J1 c = some o := fun c o hc h => se _ _ (sm c o hc h)
      have add : (∀ z ∈ U, ordOf 128 z < ordOf 128 L[i]) → ∃ y2 U', [some (V.ref l), some (V.ref D), some (V.ref L[i].1)] = [some (V.ref l), some (V.ref D), y2] ∧ (upd J1 D (.lst (refs U ++ [.ref L[i].1]))) D = some (.lst (refs U')) ∧ (∀ z ∈ U', z ∈ L.take (i + 1)) ∧ (∀ z ∈ L.take (i + 1), z.2 ∈ U'.map (·.2)) ∧ (U'.map (ordOf 128)).Pairwise (· < ·) ∧ ∀ c o, c ≠ D → H1 c = some o → (upd J1 D (.lst (refs U ++ [.ref L[i].1]))) c = some o := fun hlt => by
        refine ⟨_, U ++ [L[i]], rfl, ?_, ?_, ?_, ?_, ?_⟩
        · rw [upd_same]
          show _ = some (HO.lst (List.map _ (U ++ [_])))
          rw [List.map_append]
          rfl
        · intro z hz
          rw [hti]
          rcases List.mem_append.mp hz with hz | hz
          · exact List.mem_append_left _ (u1 z hz)
          · exact List.mem_append_right _ hz
        · intro z hz
          rw [hti] at hz
          rw [List.map_append]
          rcases List.mem_append.mp hz with hz | hz
          · exact List.mem_append_left _ (u2 z hz)
          · rw [List.mem_singleton] at hz
            subst hz
            exact List.mem_append_right _ (List.mem_cons_self ..)
        · rw [List.map_append]
          refine List.pairwise_append.mpr ⟨u3, List.pairwise_singleton .., fun a ha b hb => ?_⟩
          obtain ⟨z, hz, rfl⟩ := List.mem_map.mp ha
          rw [List.map_cons, List.map_nil, List.mem_singleton] at hb
          subst hb
          exact hlt z hz
        · intro c o hc h
          rw [upd_ne hc]
          exact sm1 c o hc h
      refine ⟨lD U, .list [], dp_list (SqL.of eD) qU, .lst (SqL.of ee) .nil, shaped_list (fun z hz => (tU z hz).ok), by decide +kernel, _, rfl, ?_⟩
      rw [eqv_nil]
      rcases List.eq_nil_or_concat U with hU | ⟨U0, u, hU⟩
      · rw [decide_eq_true hU]
        refine iteT (iteT ?_)
        refine ⟨_, rfl, .inl ⟨rfl, _, SqL.of eD⟩, _, rfl, D, _, _, rfl, rfl, eD, small1000 (by rw [List.length_map]; omega), ?_⟩
        exact add (fun z hz => by rw [hU] at hz; cases hz)
      · rw [List.concat_eq_append] at hU
        have hne : U ≠ [] := by
          rw [hU]
          simp
        rw [decide_eq_false hne]
        refine iteF ?_
        have mu : u ∈ U := by
          rw [hU]
          exact List.mem_append_right _ (List.mem_cons_self ..)
        have la : atI (refs U) (-1) = some (.ref u.1) := by
          rw [hU]
          show atI (List.map _ (U0 ++ [u])) (-1) = _
          rw [List.map_append]
          exact atI_last _ _
        refine ⟨_, rfl, 1, rfl, D, _, _, _, rfl, rfl, SqL.of eD, la, _, rfl, tD u.2, tD L[i].2, dp_tie (qU u mu), dp_tie (qx _ (List.getElem_mem hik)), shaped_tie (tU u mu).ok, shaped_tie tx.ok, _, rfl, ?_⟩
        rw [eqv_tie]
        by_cases hk : u.2 = L[i].2
        · rw [decide_eq_true hk]
          refine iteF ?_
          refine ⟨_, U, rfl, eD, fun z hz => ?_, fun z hz => ?_, u3, sm1⟩
          · rw [hti]
            exact List.mem_append_left _ (u1 z hz)
          · rw [hti] at hz
            rcases List.mem_append.mp hz with hz | hz
            · exact u2 z hz
            · rw [List.mem_singleton] at hz
              subst hz
              exact List.mem_map.mpr ⟨u, mu, hk⟩
        · rw [decide_eq_false hk]
          refine iteT ?_
          refine ⟨_, rfl, .inl ⟨rfl, _, SqL.of eD⟩, _, rfl, D, _, _, rfl, rfl, eD, small1000 (by rw [List.length_map]; omega), ?_⟩
          refine add fun z hz => ?_
          have hlu : ordOf 128 u < ordOf 128 L[i] := by
            have h1 := le u mu
            have h2 : ordOf 128 u ≠ ordOf 128 L[i] := fun e => hk (ord_inj (tU u mu) tx e)
            omega
          have u3' := u3
          rw [hU, List.map_append] at u3'
          have hz' := hz
          rw [hU] at hz'
          rcases List.mem_append.mp hz' with h | h
          · have := (List.pairwise_append.mp u3').2.2 (ordOf 128 z) (List.mem_map.mpr ⟨z, h, rfl⟩) (ordOf 128 u) (List.mem_cons_self ..)
            omega
          · rw [List.mem_singleton] at h
            subst h
            exact hlu
    · rintro σ J ⟨y2, U, rfl, hD, u1, u2, u3, sm⟩
      rw [List.length_map, List.take_length] at u1 u2
      refine ⟨_, rfl, KQ D U J nD hD (Srt.strict (fun z hz => pm.mem_iff.mp (u1 z hz)) (fun z hz => u2 z (pm.mem_iff.mpr hz)) u3) ?_⟩
      intro c o hc
      exact sm c o (ne_of_none hc nD) (s01 _ _ hc)
end
end Wb
namespace Wb
open PySem PySem.Spec PyProof.Rows L2 RZ Sg
abbrev sWeb : Stmt := topS 24
abbrev sTold : Stmt := topS 25
/-- a web told as a tuple -/
structure MW (K : PySem.W.Frag) (H : Hp) (p : Addr) (n : Int) (a m : Addr) (As Ms : List TK) : Prop where
  tp : H p = some (.tup [.int n, .ref a, .ref m])
  ha : H a = some (.lst (refs As))
  hm : H m = some (.lst (refs Ms))
  qa : ∀ z ∈ As, SqT K H z.1 (z.2.map kV)
  qm : ∀ z ∈ Ms, SqT K H z.1 (z.2.map kV)
  ka : ∀ z ∈ As, AK n z.2
  km : ∀ z ∈ Ms, MK n z.2
  na : (As.map (·.2)).Nodup
  nm : (Ms.map (·.2)).Nodup
  ra : As.Pairwise fun p q => ordOf 128 p ≤ ordOf 128 q
  rm : Ms.Pairwise fun p q => ordOf 128 p ≤ ordOf 128 q
  la : As.length ≤ 60
  lm : Ms.length ≤ 60
  n0 : 0 ≤ n
  n1 : n ≤ 30
theorem MW.same {K : PySem.W.Frag} {H H' : Hp} {p a m : Addr} {n : Int} {As Ms : List TK} (s : Same H H') (h : MW K H p n a m As Ms) : MW K H' p n a m As Ms :=
  { h with tp := s _ _ h.tp, ha := s _ _ h.ha, hm := s _ _ h.hm, qa := fun z hz => same_tup s (h.qa z hz), qm := fun z hz => same_tup s (h.qm z hz) }
theorem bx_at {H : Hp} {b q : Addr} (B : Bx H b q) : ∃ xs, H b = some (.lst xs) := by
  obtain ⟨ns, i, r, k, hb, _⟩ := B
  exact ⟨_, hb⟩
theorem bx_same {H H' : Hp} {b q : Addr} (s : Same H H') (B : Bx H b q) : Bx H' b q := by
  obtain ⟨ns, i, r, k, hb, hq, h⟩ := B
  exact ⟨ns, i, r, k, s _ _ hb, s _ _ hq, h⟩
theorem bx_tup {K : PySem.W.Frag} {b q p : Addr} {H H' : Hp} {xs : List V} (B : Bx H b q) (s : Xt b H H') (h : SqT K H p xs) : SqT K H' p xs := by
  obtain ⟨ys, hb⟩ := bx_at B
  exact xt_tup' s hb h
theorem MW.xt {K : PySem.W.Frag} {H H' : Hp} {b q p a m : Addr} {n : Int} {As Ms : List TK} (B : Bx H b q) (s : Xt b H H') (h : MW K H p n a m As Ms) : MW K H' p n a m As Ms := by
  obtain ⟨ys, hb⟩ := bx_at B
  exact { h with tp := s _ _ (ne_of h.tp hb (fun z => nomatch z)) h.tp, ha := s _ _ (bx_nr B h.ha) h.ha, hm := s _ _ (bx_nr B h.hm) h.hm, qa := fun z hz => xt_tup' s hb (h.qa z hz), qm := fun z hz => xt_tup' s hb (h.qm z hz) }
theorem hue_cp {c : Str} (h : c ∈ (["a", "b", "c"] : List Str)) : ∃ k : Nat, c = ⟨#[k]⟩ ∧ (k = 97 ∨ k = 98 ∨ k = 99) := by
  simp only [List.mem_cons, List.not_mem_nil, or_false] at h
  rcases h with rfl | rfl | rfl
  · exact ⟨97, by decide +kernel, .inl rfl⟩
  · exact ⟨98, by decide +kernel, .inr (.inl rfl)⟩
  · exact ⟨99, by decide +kernel, .inr (.inr rfl)⟩
theorem sign_cp {c : Str} (h : c ∈ (["p", "q", "r"] : List Str)) : ∃ k : Nat, c = ⟨#[k]⟩ ∧ (k = 112 ∨ k = 113 ∨ k = 114) := by
  simp only [List.mem_cons, List.not_mem_nil, or_false] at h
  rcases h with rfl | rfl | rfl
  · exact ⟨112, by decide +kernel, .inl rfl⟩
  · exact ⟨113, by decide +kernel, .inr (.inl rfl)⟩
  · exact ⟨114, by decide +kernel, .inr (.inr rfl)⟩
theorem seq_ret {te : TE} {rest : TS} {D : Ends} {σ : L2.St} {H : Hp} (h : te σ H D.rt) : tSeq (tRet te) rest D σ H := h
/-- a list of ties, being drawn -/
def CL (K : PySem.W.Frag) (b q : Addr) (G : List Key → Prop) (H1 : Hp) (D : Addr) (i : Nat) (J : Hp) : Prop := ∃ ks : List TK, J D = some (.lst (refs ks)) ∧ ks.length = i ∧ (∀ z ∈ ks, SqT K J z.1 (z.2.map kV) ∧ G z.2) ∧ Bx J b q ∧ Xt b H1 J
theorem CL.new {K : PySem.W.Frag} {b q D : Addr} {G : List Key → Prop} {H1 : Hp} (B : Bx H1 b q) (nD : H1 D = none) : CL K b q G H1 D 0 (upd H1 D (.lst [])) :=
  ⟨[], upd_same, rfl, (fun z hz => nomatch hz), B.new nD, (Xt.refl b H1).new nD⟩
theorem CL.add {K : PySem.W.Frag} {b q D p : Addr} {G : List Key → Prop} {H1 J J' : Hp} {i : Nat} {k : List Key} (B : Bx H1 b q) (nD : H1 D = none) (h : CL K b q G H1 D i J) (hi : i < 1000) (B' : Bx J' b q) (x : Xt b J J') (hp : J' p = some (.tup (k.map kV))) (g : G k) :
    ∃ acc, J' D = some (.lst acc) ∧ acc.length < sizeLine ∧ CL K b q G H1 D (i + 1) (upd J' D (.lst (acc ++ [.ref p]))) := by
  obtain ⟨ks, hD, hl, hk, BJ, xJ⟩ := h
  have nb : D ≠ b := B.ne nD
  have hD' := x _ _ nb hD
  refine ⟨refs ks, hD', by rw [List.length_map]; exact small1000 (by omega), ks ++ [(p, k)], ?_, by rw [List.length_append, hl]; rfl, fun z hz => ?_, B'.upd nb (B.neq nD), fun c o hc ec => ?_⟩
  · rw [upd_same]
    show _ = some (HO.lst (List.map _ (ks ++ [_])))
    rw [List.map_append]
    rfl
  · rcases List.mem_append.mp hz with hz | hz
    · exact ⟨xt_tup' (Xt.refl D J').put hD' (bx_tup BJ x (hk z hz).1), (hk z hz).2⟩
    · rw [List.mem_singleton] at hz
      subst hz
      refine ⟨SqT.of ?_, g⟩
      rw [upd_ne (ne_of hp hD' (fun z => nomatch z))]
      exact hp
  · rw [upd_ne (ne_of_none ec nD)]
    exact x _ _ hc (xJ c o hc ec)
theorem CL.xt {K : PySem.W.Frag} {b q D : Addr} {G : List Key → Prop} {H1 J J' : Hp} {i : Nat} (h : CL K b q G H1 D i J) (nb : D ≠ b) (B' : Bx J' b q) (x : Xt b J J') : CL K b q G H1 D i J' := by
  obtain ⟨ks, hD, hl, hk, BJ, xJ⟩ := h
  exact ⟨ks, x _ _ nb hD, hl, fun z hz => ⟨bx_tup BJ x (hk z hz).1, (hk z hz).2⟩, B', xJ.trans x⟩
section
variable {P : Program} {w : World} {K : PySem.W.Frag} {mg : Str → Option Value} {base : Heap}
def spSign : Sp := fun vs H Q _ => ∃ b q, vs = [.ref b] ∧ Bx H b q ∧ ∀ (c : Str) H', c ∈ (["p", "q", "r"] : List Str) → Bx H' b q → Xt b H H' → Q (.str c) H'
theorem scSg : FnScope ["_law_box_here"] ["_law_box_here"] (defScope sSign) := ⟨rfl, rfl, rfl, by decide +kernel, rfl, by decide +kernel, by decide +kernel⟩
theorem ok_sign {f fO : Addr} {fd fdO : FuncData} (F : Fun K "_law_sign" "_law_sign" sSign f fd) (O : Df P w K mg base 2 "_law_one" ["_law_box_here", "_law_some"] (spOne K) fO fdO) : FnOk P w K mg base CX0 3 f fd ["_law_box_here"] spSign := by
  refine F.ok scSg (fun vs H Q E h => ?_) (fun cdv A outer s H vs Q E hr h => ?_)
  · obtain ⟨b, q, rfl, _⟩ := h
    rfl
  · obtain ⟨b, q, rfl, B, K1⟩ := h
    refine ⟨_, pss_one (ps_ret (pe_call O.ok hr (by rfl) O.gl O.kp O.bd .nil pass0 (pa_cons (pv 0) (pa_cons (pe_lst (pa_cons pe_str (pa_cons pe_str (pa_cons pe_str (pa_cons pe_str pa_nil))))) pa_nil)))), ?_⟩
    refine ⟨_, rfl, by show 4 ≤ sizeLine; decide, fun p np => ?_⟩
    refine .inl ⟨b, q, p, _, rfl, B.new np, SqL.of upd_same, B.ne np, by simp, by show 4 ≤ 1000; decide, fun v H' hv B' kp => ?_⟩
    obtain ⟨c, rfl, hc⟩ : ∃ c : Str, v = .str c ∧ c ∈ (["p", "q", "r"] : List Str) := by
      simp only [List.mem_cons, List.not_mem_nil, or_false] at hv
      rcases hv with rfl | rfl | rfl | rfl
      all_goals exact ⟨_, rfl, by simp⟩
    exact K1 c H' hc B' (((Xt.refl b H).new np).trans kp.xt)
/-! ### a web drawn -/
def spWeb (K : PySem.W.Frag) : Sp := fun vs H Q _ => ∃ b q lo hi, vs = [.ref b, .int lo, .int hi] ∧ Bx H b q ∧ 0 ≤ lo ∧ lo ≤ hi ∧ hi ≤ 30 ∧ ∀ p n a m As Ms H', lo ≤ n → n ≤ hi → MW K H' p n a m As Ms → Bx H' b q → Xt b H H' → Q (.ref p) H'
abbrev NW : List Str := ["_law_box_here", "_law_low", "_law_high", "_law_many", "_law_crowd", "_law_my_arrows", "_law_my_marks", "_law_k"]
theorem scW : FnScope NW ["_law_box_here", "_law_low", "_law_high"] (defScope sWeb) := ⟨rfl, rfl, rfl, by decide +kernel, rfl, by decide +kernel, by decide +kernel⟩
set_option maxHeartbeats 4000000 in
theorem ok_web {f fT fO fS fA fU : Addr} {fd dT dO dS dA dU : FuncData} (F : Fun K "_law_web" "_law_web" sWeb f fd) (mr : mg "range" = none) (T : Df P w K mg base 1 "_law_take" ["_law_box_here", "_law_many"] spTake fT dT)
    (O : Df P w K mg base 2 "_law_one" ["_law_box_here", "_law_some"] (spOne K) fO dO) (G : Df P w K mg base 3 "_law_sign" ["_law_box_here"] spSign fS dS) (R : Df P w K mg base 4 "_law_arrow" ["_law_box_here", "_law_many"] spArrow fA dA)
    (U : Df P w K mg base 1 "_law_unlike" ["_law_some"] (spUnl K) fU dU) : FnOk P w K mg base CX0 5 f fd ["_law_box_here", "_law_low", "_law_high"] (spWeb K) := by
  refine F.ok scW (fun vs H Q E h => ?_) (fun cdv A outer s H vs Q E hr h => ?_)
  · obtain ⟨b, q, lo, hi, rfl, _⟩ := h
    rfl
  · obtain ⟨b, q, lo, hi, rfl, B, l0, l1, l2, KQ⟩ := h
    refine ⟨_, pss_cons (ps_set (i := 3) scW.nd rfl (.inr rfl) (pe_op op_add (pv 1) (pe_call T.ok (hr.mono (by decide)) (by rfl) T.gl T.kp T.bd .nil pass0 (pa_cons (pv 0) (pa_cons (pe_op op_add (pe_op op_sub (pv 2) (pv 1)) pe_int) pa_nil)))))
      (pss_cons (ps_if (pt_cmpR op_eq (pv 3) pe_int (nomark _)) (pss_one (ps_ret (pe_tup (pa_cons pe_int (pa_cons (pe_lst pa_nil) (pa_cons (pe_lst pa_nil) pa_nil)))))) pss_nil)
      (pss_cons (ps_set (i := 4) scW.nd rfl (.inl rfl) (pe_call O.ok (hr.mono (by decide)) (by rfl) O.gl O.kp O.bd .nil pass0 (pa_cons (pv 0) (pa_cons (pe_lst (pa_cons (pv 3) (pa_cons (pv 3) (pa_cons (pe_op op_mul pe_int (pv 3)) (pa_cons pe_int pa_nil))))) pa_nil))))
      (pss_cons (ps_setLc (i := 5) (own := [("_law_k", 7)]) (g := gName 7) (tt := tYes) rfl scW.nd rfl rfl (sw_true rfl rfl rfl (by decide +kernel)) (pi_range1 (by rfl) mr (pa_cons (pe_call T.ok (hr.mono (by decide)) (by rfl) T.gl T.kp T.bd .nil pass0 (pa_cons (pv 0) (pa_cons (pe_op op_add (pv 4) pe_int) pa_nil))) pa_nil)) (blkOk_by (N := NW) (sc := defScope sWeb) (by decide +kernel))
        (fun _ _ _ _ _ => pg_name (i := 7) scW.nd rfl (Or.inl rfl)) (fun _ _ _ _ _ => pts_nil) (fun _ _ _ _ _ => pe_call R.ok hr (by rfl) R.gl R.kp R.bd .nil pass0 (pa_cons (pv 0) (pa_cons (pv 3) pa_nil))))
      (pss_cons (ps_setLc (i := 6) (own := [("_law_k", 7)]) (g := gName 7) (tt := tYes) rfl scW.nd rfl rfl (sw_true rfl rfl rfl (by decide +kernel)) (pi_range1 (by rfl) mr (pa_cons (pe_call O.ok (hr.mono (by decide)) (by rfl) O.gl O.kp O.bd .nil pass0 (pa_cons (pv 0) (pa_cons (pe_lst (pa_cons pe_int (pa_cons pe_int (pa_cons pe_int (pa_cons pe_int (pa_cons (pv 3) pa_nil)))))) pa_nil))) pa_nil)) (blkOk_by (N := NW) (sc := defScope sWeb) (by decide +kernel))
        (fun _ _ _ _ _ => pg_name (i := 7) scW.nd rfl (Or.inl rfl)) (fun _ _ _ _ _ => pts_nil) (fun _ _ _ _ _ => pe_tup (pa_cons (pe_call G.ok (hr.mono (by decide)) (by rfl) G.gl G.kp G.bd .nil pass0 (pa_cons (pv 0) pa_nil)) (pa_cons (pe_call T.ok (hr.mono (by decide)) (by rfl) T.gl T.kp T.bd .nil pass0 (pa_cons (pv 0) (pa_cons (pv 3) pa_nil))) pa_nil))))
      (pss_one (ps_ret (pe_tup (pa_cons (pv 3) (pa_cons (pe_call U.ok (hr.mono (by decide)) (by rfl) U.gl U.kp U.bd .nil pass0 (pa_cons (pv 5) pa_nil)) (pa_cons (pe_call U.ok (hr.mono (by decide)) (by rfl) U.gl U.kp U.bd .nil pass0 (pa_cons (pv 6) pa_nil)) pa_nil)))))))))), ?_⟩
    refine seq_set ⟨_, rfl, _, rfl, _, rfl, _, rfl, _, _, rfl, rfl, _, _, rfl, rfl, b, q, _, rfl, B, by omega, by omega, fun z H1 z0 z1 B1 k1 => ⟨lo, z, rfl, rfl, ?_⟩⟩
    have hn0 : 0 ≤ lo + z := by omega
    have hn1 : lo + z ≤ hi := by omega
    have hlo : lo ≤ lo + z := by omega
    dsimp only
    generalize lo + z = n at hn0 hn1 hlo ⊢
    have x1 := k1.xt
    clear k1 z0 z1
    refine seq_if ⟨_, rfl, rfl, _, rfl, ?_⟩
    by_cases hz : n = 0
    · subst hz
      rw [decide_eq_true rfl]
      refine iteT (seq_ret ?_)
      refine ⟨Nat.zero_le _, fun a na => ⟨Nat.zero_le _, fun m nm => ⟨by show 3 ≤ sizeLine; decide, fun p np => ?_⟩⟩⟩
      have s1 : Same (upd H1 a (.lst [])) (upd (upd H1 a (.lst [])) m (.lst [])) := same_upd nm
      have s2 := same_upd (o := .tup [.int 0, .ref a, .ref m]) np
      exact KQ p 0 a m [] [] _ hlo hn1 ⟨upd_same, s2 _ _ (s1 _ _ upd_same), s2 _ _ upd_same, (fun z hz => nomatch hz), (fun z hz => nomatch hz), (fun z hz => nomatch hz), (fun z hz => nomatch hz), List.Pairwise.nil, List.Pairwise.nil, List.Pairwise.nil, List.Pairwise.nil, Nat.zero_le _, Nat.zero_le _, by omega, by omega⟩ (((B1.new na).new nm).new np) (((x1.new na).new nm).new np)
    · rw [decide_eq_false (fun z => hz (V.int.inj z))]
      refine iteF (seq_next ?_)
      have np0 : 0 < n := by omega
      refine seq_set ⟨_, rfl, _, rfl, _, rfl, _, rfl, 2, n, rfl, rfl, .inl ⟨by decide, by decide⟩, by show 4 ≤ sizeLine; decide, fun p np => .inl ⟨b, q, p, _, rfl, B1.new np, SqL.of upd_same, B1.ne np, by simp, by show 4 ≤ 1000; decide, fun v H2 hv B2 k2 => ?_⟩⟩
      obtain ⟨cr, rfl, c0, c1⟩ : ∃ c : Int, v = .int c ∧ 0 ≤ c ∧ c ≤ 60 := by
        simp only [List.mem_cons, List.not_mem_nil, or_false] at hv
        rcases hv with rfl | rfl | rfl | rfl
        all_goals exact ⟨_, rfl, by omega, by omega⟩
      have x2 := (x1.new (o := .lst [.int n, .int n, .int (2 * n), .int 3]) np).trans k2.xt
      clear k2 hv
      refine seq_set ⟨_, rfl, _, rfl, _, _, rfl, rfl, b, q, _, rfl, B2, by omega, by omega, fun t H3 t0 t1 B3 k3 => ⟨t, rfl, by omega, by omega, fun D nD => ?_⟩⟩
      have x3 := x2.trans k3.xt
      have Db : D ≠ b := B3.ne nD
      clear x2 k3 B2
      refine lc_range (lo := 0) (n := t.toNat) (CL K b q (AK n) H3 D) (CL.new B3 nD) ?_ ?_
      · rintro i J hi h
        refine ⟨rfl, ?_⟩
        dsimp only [tYes]
        refine iteT ?_
        have hh := h
        obtain ⟨_, _, _, _, BJ, _⟩ := hh
        refine ⟨_, rfl, _, rfl, b, q, n, rfl, BJ, np0, by omega, fun p c x y J' fp pb hp hc x0 x1 y0 y1 B' xt => ?_⟩
        obtain ⟨k, rfl, hk⟩ := hue_cp hc
        exact h.add B3 nD (by omega) B' xt (k := [.inr ⟨#[k]⟩, .inl x, .inl y]) hp ⟨k, x, y, rfl, hk, x0, x1, y0, y1⟩
      · intro J4 cA
        obtain ⟨_, _, _, _, B4, x4⟩ := id cA
        refine ⟨_, rfl, _, rfl, by show 5 ≤ sizeLine; decide, fun p np => .inl ⟨b, q, p, _, rfl, B4.new np, SqL.of upd_same, B4.ne np, by simp, by show 5 ≤ 1000; decide, fun v J5 hv B5 k5 => ?_⟩⟩
        obtain ⟨mm, rfl, m0, m1⟩ : ∃ c : Int, v = .int c ∧ 0 ≤ c ∧ c ≤ 60 := by
          simp only [List.mem_cons, List.not_mem_nil, or_false] at hv
          rcases hv with rfl | rfl | rfl | rfl | rfl
          all_goals exact ⟨_, rfl, by omega, by omega⟩
        have cA5 := cA.xt Db B5 (((Xt.refl b J4).new np).trans k5.xt)
        clear cA k5 hv
        refine ⟨mm, rfl, by omega, by omega, fun D2 nD2 => ?_⟩
        have Db2 : D2 ≠ b := B5.ne nD2
        refine lc_range (lo := 0) (n := mm.toNat) (CL K b q (MK n) J5 D2) (CL.new B5 nD2) ?_ ?_
        · rintro i J hi h
          refine ⟨rfl, ?_⟩
          dsimp only [tYes]
          refine iteT ?_
          obtain ⟨_, _, _, _, BJ, _⟩ := id h
          refine ⟨_, rfl, b, q, rfl, BJ, fun c J1 hc B1 y1 => ?_⟩
          refine ⟨_, rfl, _, rfl, b, q, n, rfl, B1, np0, by omega, fun x J2 x0 x1 B2 k2 => ?_⟩
          refine ⟨by show 2 ≤ sizeLine; decide, fun p np => ?_⟩
          obtain ⟨k, rfl, hk⟩ := sign_cp hc
          exact h.add B5 nD2 (by omega) (B2.new np) ((y1.trans k2.xt).new np) (k := [.inr ⟨#[k]⟩, .inl x]) upd_same ⟨k, x, rfl, hk, x0, x1⟩
        · intro J6 cM
          obtain ⟨_, _, _, _, B6, x6⟩ := id cM
          obtain ⟨ka, hA, lA, gA, _, xA⟩ := cA5.xt Db B6 x6
          obtain ⟨km, hM, lM, gM, _, _⟩ := cM
          have tA : ∀ z ∈ ka, TieK 128 3 z.2 := fun z hz => (gA z hz).2.tie (by omega)
          have tM : ∀ z ∈ km, TieK 128 2 z.2 := fun z hz => (gM z hz).2.tie (by omega)
          refine ⟨_, rfl, _, rfl, D, ka, 3, rfl, hA, fun z hz => (gA z hz).1, tA, by omega, fun a As J7 na ha sA s7 => ?_⟩
          refine ⟨_, rfl, D2, km, 2, rfl, s7 _ _ hM, fun z hz => same_tup s7 (gM z hz).1, tM, by omega, fun m Ms J8 nm hm sM s8 => ?_⟩
          refine ⟨by show 3 ≤ sizeLine; decide, fun p np => ?_⟩
          have s9 := same_upd (o := .tup [.int n, .ref a, .ref m]) np
          have s69 := (s7.trans s8).trans s9
          refine KQ p n a m As Ms _ hlo hn1 ⟨upd_same, s9 _ _ (s8 _ _ ha), s9 _ _ hm, fun z hz => same_tup s69 (gA z (sA.of z hz)).1, fun z hz => same_tup s69 (gM z (sM.of z hz)).1, fun z hz => (gA z (sA.of z hz)).2, fun z hz => (gM z (sM.of z hz)).2, sA.nd, sM.nd, sA.ris, sM.ris, ?_, ?_, by omega, by omega⟩ (bx_same s69 B6) ((x3.trans xA).trans (Same.xt s69))
          · have := sA.len
            omega
          · have := sM.len
            omega
end
end Wb
namespace Wb
open PySem PySem.Spec PyProof.Rows L2 RZ Sg
/-- what callers hold of a method of no arguments -/
structure Mf (P : Program) (w : World) (K : PySem.W.Frag) (mg : Str → Option Value) (base : Heap) (k : Nat) (C : Addr) (m : Str) (sp : Sp) (f : Addr) (fd : FuncData) : Prop where
  ok : FnOk P w K mg base CX0 k f fd ["self"] sp
  mt : Meth K C m f
  bd : Binds K fd ["self"] []
section
variable {P : Program} {w : World} {K : PySem.W.Frag} {mg : Str → Option Value} {base : Heap}
def spTold (C : Addr) : Sp := fun vs H Q _ => ∃ x n As Ms, vs = [.ref x] ∧ WebAt C H x n As Ms ∧ 0 ≤ n ∧ ∀ p a m H', Same H H' → H' p = some (.tup [.int n, .ref a, .ref m]) → H' a = some (.lst (refs As)) → H' m = some (.lst (refs Ms)) → Q (.ref p) H'
theorem scTo : FnScope ["_law_web_here"] ["_law_web_here"] (defScope sTold) := ⟨rfl, rfl, rfl, by decide +kernel, rfl, by decide +kernel, by decide +kernel⟩
set_option maxHeartbeats 2000000 in
theorem ok_told {f C fP fA fM : Addr} {fd dP dA dM : FuncData} (F : Fun K "_law_told" "_law_told" sTold f fd) (c : Cls K C) (oP : Mf P w K mg base 1 C "points" (spPts C) fP dP) (oA : Mf P w K mg base 1 C "arrows" (spArr C) fA dA) (oM : Mf P w K mg base 1 C "marks" (spMrk C) fM dM) :
    FnOk P w K mg base CX0 2 f fd ["_law_web_here"] (spTold C) := by
  refine F.ok scTo (fun vs H Q E h => ?_) (fun cdv A outer s H vs Q E hr h => ?_)
  · obtain ⟨x, n, As, Ms, rfl, _⟩ := h
    rfl
  · obtain ⟨x, n, As, Ms, rfl, W, n0, KQ⟩ := h
    refine ⟨_, pss_one (ps_ret (pe_tup (pa_cons (pe_meth0 (pv 0) c oP.mt oP.ok hr oP.bd .nil pass0) (pa_cons (pe_meth0 (pv 0) c oA.mt oA.ok hr oA.bd .nil pass0) (pa_cons (pe_meth0 (pv 0) c oM.mt oM.ok hr oM.bd .nil pass0) pa_nil))))), ?_⟩
    have W0 := W
    obtain ⟨dx, pl, ar, mr, ow, bw, h1, _⟩ := W.ex
    refine ret_of ⟨_, rfl, x, dx, _, rfl, h1, rfl, x, n, As, Ms, rfl, W0, n0, ?_⟩
    refine ⟨_, rfl, x, dx, _, rfl, h1, rfl, x, n, As, Ms, rfl, W0, fun a na => ?_⟩
    have s1 := same_upd (o := .lst (refs As)) na
    refine ⟨_, rfl, x, dx, _, rfl, s1 _ _ h1, rfl, x, n, As, Ms, rfl, W0.same s1, fun m nm => ?_⟩
    have s2 := same_upd (o := .lst (refs Ms)) nm
    refine ⟨by show 3 ≤ sizeLine; decide, fun p np => ?_⟩
    have s3 := same_upd (o := .tup [.int n, .ref a, .ref m]) np
    exact KQ p a m _ ((s1.trans s2).trans s3) upd_same (s3 _ _ (s2 _ _ upd_same)) (s3 _ _ upd_same)
/-! ### making a web, with its names in any order -/
abbrev psI : List Str := ["self", "points", "arrows", "marks"]
def g1 {α : Type} (us _mv ws : List α) : List α := match us, ws with | [s, p], [m, a] => [s, p, a, m] | _, _ => []
def g2 {α : Type} (us _mv ws : List α) : List α := match us, ws with | [s, p], [a, m] => [s, p, a, m] | _, _ => []
def g3 {α : Type} (us mv ws : List α) : List α := match us, mv, ws with | [s], [a, m], [p] => [s, p, a, m] | _, _, _ => []
def g4 {α : Type} (us mv ws : List α) : List α := match us, mv, ws with | [s, p], [a], [m] => [s, p, a, m] | _, _, _ => []
theorem vals1 {vs : List V} {u : Value} {us : List Value} (h : Vals vs (u :: us)) : ∃ v vs', vs = v :: vs' ∧ RelV v u ∧ Vals vs' us := by
  cases h with
  | cons a b => exact ⟨_, _, rfl, a, b⟩
theorem vals0 {vs : List V} (h : Vals vs []) : vs = [] := by
  cases h
  rfl
theorem kb1 {f : Addr} {fd : FuncData} {kws : List (Str × V)} (F : FunD K "__init__" "Web.__init__" (defArgs sInit) (defBody sInit) (defScope sInit) [] kws f fd) (hk : kws ≠ []) : ∃ mv : List Value, KBn K fd psI 2 ["marks", "arrows"] (fun us ws => g1 us mv ws) (fun vs zs => g1 vs [] zs) := by
  refine F.kbinds0 2 ["marks", "arrows"] [] g1 hk (fun q h => nomatch h) ?_ ?_
  · intro vs mz zs us mv ws h1 h2 h3
    cases h1 with
    | nil => exact .nil
    | cons a0 ta0 =>
      cases ta0 with
      | nil => exact .nil
      | cons a1 ta1 =>
        cases ta1 with
        | cons _ _ => exact .nil
        | nil =>
          cases h3 with
          | nil => exact .nil
          | cons b0 tb0 =>
            cases tb0 with
            | nil => exact .nil
            | cons b1 tb1 =>
              cases tb1 with
              | cons _ _ => exact .nil
              | nil =>
                exact .cons a0 (.cons a1 (.cons b1 (.cons b0 .nil)))
  · intro D doc pm an cdv ct us mv ws l1 l2 l3
    match us, mv, ws, l1, l2, l3 with
    | [s, p], [], [m, a], _, _, _ => exact rfl
theorem kb2 {f : Addr} {fd : FuncData} {kws : List (Str × V)} (F : FunD K "__init__" "Web.__init__" (defArgs sInit) (defBody sInit) (defScope sInit) [] kws f fd) (hk : kws ≠ []) : ∃ mv : List Value, KBn K fd psI 2 ["arrows", "marks"] (fun us ws => g2 us mv ws) (fun vs zs => g2 vs [] zs) := by
  refine F.kbinds0 2 ["arrows", "marks"] [] g2 hk (fun q h => nomatch h) ?_ ?_
  · intro vs mz zs us mv ws h1 h2 h3
    cases h1 with
    | nil => exact .nil
    | cons a0 ta0 =>
      cases ta0 with
      | nil => exact .nil
      | cons a1 ta1 =>
        cases ta1 with
        | cons _ _ => exact .nil
        | nil =>
          cases h3 with
          | nil => exact .nil
          | cons b0 tb0 =>
            cases tb0 with
            | nil => exact .nil
            | cons b1 tb1 =>
              cases tb1 with
              | cons _ _ => exact .nil
              | nil =>
                exact .cons a0 (.cons a1 (.cons b0 (.cons b1 .nil)))
  · intro D doc pm an cdv ct us mv ws l1 l2 l3
    match us, mv, ws, l1, l2, l3 with
    | [s, p], [], [a, m], _, _, _ => exact rfl
theorem kb3 {f : Addr} {fd : FuncData} {ta tm : Addr} (F : FunD K "__init__" "Web.__init__" (defArgs sInit) (defBody sInit) (defScope sInit) [] [("arrows", .ref ta), ("marks", .ref tm)] f fd) : ∃ mv : List Value, KBn K fd psI 1 ["points"] (fun us ws => g3 us mv ws) (fun vs zs => g3 vs [.ref ta, .ref tm] zs) := by
  refine F.kbinds0 1 ["points"] [("arrows", .ref ta), ("marks", .ref tm)] g3 (fun z => nomatch z) (fun q h => h) ?_ ?_
  · intro vs mz zs us mv ws h1 h2 h3
    cases h1 with
    | nil => exact .nil
    | cons a0 ta0 =>
      cases ta0 with
      | cons _ _ => exact .nil
      | nil =>
        cases h2 with
        | nil => exact .nil
        | cons c0 tc0 =>
          cases tc0 with
          | nil => exact .nil
          | cons c1 tc1 =>
            cases tc1 with
            | cons _ _ => exact .nil
            | nil =>
              cases h3 with
              | nil => exact .nil
              | cons b0 tb0 =>
                cases tb0 with
                | cons _ _ => exact .nil
                | nil =>
                  exact .cons a0 (.cons b0 (.cons c0 (.cons c1 .nil)))
  · intro D doc pm an cdv ct us mv ws l1 l2 l3
    match us, mv, ws, l1, l2, l3 with
    | [s], [a, m], [p], _, _, _ => exact ⟨_, _, _, _, _, _, rfl, rfl, _, _, _, _, _, _, rfl, rfl, rfl⟩
theorem kb4 {f : Addr} {fd : FuncData} {ta tm : Addr} (F : FunD K "__init__" "Web.__init__" (defArgs sInit) (defBody sInit) (defScope sInit) [] [("arrows", .ref ta), ("marks", .ref tm)] f fd) : ∃ mv : List Value, KBn K fd psI 2 ["marks"] (fun us ws => g4 us mv ws) (fun vs zs => g4 vs [.ref ta] zs) := by
  refine F.kbinds0 2 ["marks"] [("arrows", .ref ta)] g4 (fun z => nomatch z) (fun q h => List.mem_cons.mpr (.inl (List.mem_singleton.mp h))) ?_ ?_
  · intro vs mz zs us mv ws h1 h2 h3
    cases h1 with
    | nil => exact .nil
    | cons a0 ta0 =>
      cases ta0 with
      | nil => exact .nil
      | cons a1 ta1 =>
        cases ta1 with
        | cons _ _ => exact .nil
        | nil =>
          cases h2 with
          | nil => exact .nil
          | cons c0 tc0 =>
            cases tc0 with
            | cons _ _ => exact .nil
            | nil =>
              cases h3 with
              | nil => exact .nil
              | cons b0 tb0 =>
                cases tb0 with
                | cons _ _ => exact .nil
                | nil =>
                  exact .cons a0 (.cons a1 (.cons c0 (.cons b0 .nil)))
  · intro D doc pm an cdv ct us mv ws l1 l2 l3
    match us, mv, ws, l1, l2, l3 with
    | [s, p], [a], [m], _, _, _ => exact ⟨_, _, _, _, _, _, rfl, rfl, rfl⟩
end
end Wb
namespace Wb
open PySem PySem.Spec PyProof.Rows L2 RZ Sg
theorem cut_to {xs : List V} (k : Nat) : cutV xs none (some (k : Int)) = xs.take k := by
  unfold cutV
  rw [HT.sIx_none, show HT.sIx xs.length xs.length (some ((k : Nat) : Int)) = min k xs.length from HT.sIx_nat xs.length xs.length k, List.drop_zero, Nat.sub_zero]
  by_cases h : k ≤ xs.length
  · rw [Nat.min_eq_left h]
  · rw [Nat.min_eq_right (by omega), List.take_length, List.take_of_length_le (by omega)]
theorem sv_keys {K : PySem.W.Frag} {H : Hp} : ∀ k : List Key, Paired (Sv K H 0) (k.map kV) (k.map kV)
  | [] => .nil
  | k :: ks => .cons (by cases k <;> exact ⟨rfl, rfl⟩) (sv_keys ks)
theorem sv_tie {K : PySem.W.Frag} {H : Hp} {a b : Addr} {k : List Key} (hk : k.length ≤ 1000) (h1 : SqT K H a (k.map kV)) (h2 : SqT K H b (k.map kV)) : Sv K H 1 (.ref a) (.ref b) :=
  .inr ⟨a, b, _, _, rfl, rfl, .inr ⟨h1, h2⟩, by rw [List.length_map]; omega, sv_keys k⟩
theorem sv_refs {K : PySem.W.Frag} {H : Hp} : ∀ {U V : List TK}, U.map (·.2) = V.map (·.2) → (∀ z ∈ U, SqT K H z.1 (z.2.map kV)) → (∀ z ∈ V, SqT K H z.1 (z.2.map kV)) → (∀ z ∈ V, z.2.length ≤ 1000) → Paired (Sv K H 1) (refs U) (refs V)
  | [], [], _, _, _, _ => .nil
  | [], _ :: _, h, _, _, _ => by cases h
  | _ :: _, [], h, _, _, _ => by cases h
  | p :: U, q :: V, h, h1, h2, h3 => by
    rw [List.map_cons, List.map_cons] at h
    injection h with ha hb
    refine .cons (sv_tie (k := q.2) (h3 q (List.mem_cons_self ..)) ?_ (h2 q (List.mem_cons_self ..))) (sv_refs hb (fun z hz => h1 z (List.mem_cons_of_mem _ hz)) (fun z hz => h2 z (List.mem_cons_of_mem _ hz)) fun z hz => h3 z (List.mem_cons_of_mem _ hz))
    have := h1 p (List.mem_cons_self ..)
    rw [show p.2 = q.2 from ha] at this
    exact this
theorem srt_eq {d : Nat} {ks U V : List TK} (s : Srt ks U) (h : ∀ k, k ∈ ks.map (·.2) ↔ k ∈ V.map (·.2)) (t1 : ∀ p ∈ ks, TieK 128 d p.2) (t2 : ∀ p ∈ V, TieK 128 d p.2) (nd : (V.map (·.2)).Nodup) (ris : V.Pairwise fun p q => ordOf 128 p ≤ ordOf 128 q) : U.map (·.2) = V.map (·.2) := by
  refine same_keys (fun p hp => t1 p (s.of p hp)) t2 s.nd nd s.ris ris fun k => ⟨fun hk => ?_, fun hk => ?_⟩
  · obtain ⟨p, hp, rfl⟩ := List.mem_map.mp hk
    exact (h _).mp (List.mem_map.mpr ⟨p, s.of p hp, rfl⟩)
  · obtain ⟨p, hp, e⟩ := List.mem_map.mp ((h k).mpr hk)
    rw [← e]
    exact s.all p hp
/-- the told tuple is the tuple drawn -/
theorem sv_told {K : PySem.W.Frag} {H : Hp} {tp ta tm p a m : Addr} {n : Int} {As Ms Us Vs : List TK} (h1 : H tp = some (.tup [.int n, .ref ta, .ref tm])) (h2 : H ta = some (.lst (refs Us))) (h3 : H tm = some (.lst (refs Vs))) (W : MW K H p n a m As Ms)
    (e1 : Us.map (·.2) = As.map (·.2)) (e2 : Vs.map (·.2) = Ms.map (·.2)) (q1 : ∀ z ∈ Us, SqT K H z.1 (z.2.map kV)) (q2 : ∀ z ∈ Vs, SqT K H z.1 (z.2.map kV)) : Sv K H 3 (.ref tp) (.ref p) := by
  have l1 : Us.length = As.length := by
    have := congrArg List.length e1
    rwa [List.length_map, List.length_map] at this
  have l2 : Vs.length = Ms.length := by
    have := congrArg List.length e2
    rwa [List.length_map, List.length_map] at this
  have w1 := W.la
  have w2 := W.lm
  refine .inr ⟨tp, p, _, _, rfl, rfl, .inr ⟨SqT.of h1, SqT.of W.tp⟩, by show 3 ≤ 100000; decide, .cons (.inl ⟨rfl, rfl⟩) (.cons (.inr ⟨ta, a, _, _, rfl, rfl, .inl ⟨SqL.of h2, SqL.of W.ha⟩, by rw [List.length_map]; omega, sv_refs e1 q1 W.qa fun z hz => ?_⟩) (.cons (.inr ⟨tm, m, _, _, rfl, rfl, .inl ⟨SqL.of h3, SqL.of W.hm⟩, by rw [List.length_map]; omega, sv_refs e2 q2 W.qm fun z hz => ?_⟩) .nil))⟩
  · have n1 := W.n1
    rw [((W.ka z hz).tie (by omega)).len]
    decide
  · have n1 := W.n1
    rw [((W.km z hz).tie (by omega)).len]
    decide
section
variable {P : Program} {w : World} {K : PySem.W.Frag} {mg : Str → Option Value} {base : Heap}
theorem mk_use {C x dx la lm : Addr} {J : Hp} {ka km : List TK} {n : Int} {Q : Hp → Prop} {E : XK} (nx : J x = none) (ndx : J dx = none) (ne : dx ≠ x) (n0 : 0 ≤ n) (n1 : n ≤ 81) (ta : TL K J la ka) (ga : ∀ p ∈ ka, AK n p.2) (l64 : ka.length < 64) (tm : TL K J lm km) (gm : ∀ p ∈ km, MK n p.2) (m64 : km.length < 64)
    (q : ∀ J' As Ms, (∀ J'', (∀ c o, J c = none → J' c = some o → J'' c = some o) → WebAt C J'' x n As Ms) → Srt ka As → Srt km Ms → Same J J' → Q J') : spInit K C [.ref x, .int n, .ref la, .ref lm] (upd (upd J dx (.own x)) x (.ins C dx [])) (fun v H3 => v = .non ∧ Q H3) E := by
  have s1 : Same J (upd J dx (.own x)) := same_upd ndx
  have nx1 : (upd J dx (.own x)) x = none := by
    rw [upd_ne ne.symm]
    exact nx
  have s2 : Same (upd J dx (.own x)) (upd (upd J dx (.own x)) x (.ins C dx [])) := same_upd nx1
  have s := s1.trans s2
  refine ⟨x, dx, n, la, lm, ka, km, rfl, upd_same, n0, n1, ta.same s, ga, l64, tm.same s, gm, m64, fun J' As Ms W sA sM xt => ⟨rfl, q J' As Ms (fun J'' kp => W J'' fun c o hc e => kp c o ?_ e) sA sM fun c o hc => ?_⟩⟩
  · rcases hc with hc | rfl
    · exact s.free hc
    · exact nx
  exact xt c o (ne_of_none hc nx) (s c o hc)
/-- a list told, some of its first things put behind it, all mixed -/
theorem read_mix {bx q p l : Addr} {σ : L2.St} {J : Hp} {xs : List V} {idx t : Int} {As : List TK} {Q : VK} (h1 : σ[1]? = some (some (.ref bx))) (h3 : σ[3]? = some (some (.ref p))) (B : Bx J bx q) (htp : J p = some (.tup xs)) (hat : atI xs idx = some (.ref l)) (hl : J l = some (.lst (refs As))) (la : As.length ≤ 60) (t0 : 0 < t) (t3 : t ≤ 3)
    (k : ∀ (L : List TK) p' J', (∀ z ∈ L, z ∈ As) → (∀ z ∈ As, z ∈ L) → L.length < 64 → J' p' = some (.lst (refs L)) → Bx J' bx q → Xt bx J J' → Q (.ref p') J') :
    tCall spMix [] E0 (tCons (tVar 1) (tCons (tOp rCat (tOp (rIxT K) (tVar 3) (tC (.int idx))) (tSl (rSlL K) (tOp (rIxT K) (tVar 3) (tC (.int idx))) tNoPart (tPart (tCall spTake [] E0 (tCons (tVar 1) (tCons (tC (.int t)) tNil)))))) tNil)) σ J Q := by
  refine ⟨_, h1, _, h3, p, xs, idx, .ref l, rfl, rfl, SqT.of htp, hat, _, h3, p, xs, idx, .ref l, rfl, rfl, SqT.of htp, hat, _, h1, bx, q, t, rfl, B, t0, by omega, fun z J1 z0 z1 B1 k1 => ?_⟩
  obtain ⟨i, rfl⟩ : ∃ i : Nat, z = (i : Int) := ⟨z.toNat, by omega⟩
  have hl1 := k1.xt _ _ (bx_nr B hl) hl
  refine ⟨i, rfl, l, _, rfl, SqL.of hl1, fun c nc => ?_⟩
  rw [cut_to]
  have s2 : Same J1 (upd J1 c (.lst ((refs As).take i))) := same_upd nc
  have e2 : (upd J1 c (.lst ((refs As).take i))) c = some (.lst ((refs As).take i)) := upd_same
  generalize upd J1 c (.lst ((refs As).take i)) = J2 at s2 e2 ⊢
  have hlen : (refs As).length + ((refs As).take i).length < 64 := by
    rw [List.length_take, List.length_map]
    omega
  refine ⟨l, c, _, _, rfl, rfl, s2 _ _ hl1, e2, Nat.le_of_lt (small1000 (by omega)), fun d nd => ?_⟩
  have s3 : Same J2 (upd J2 d (.lst (refs As ++ (refs As).take i))) := same_upd nd
  have e3 : (upd J2 d (.lst (refs As ++ (refs As).take i))) d = some (.lst (refs (As ++ As.take i))) := by
    rw [upd_same]
    show _ = some (HO.lst (List.map _ (As ++ As.take i)))
    rw [List.map_append, List.map_take]
  generalize upd J2 d (.lst (refs As ++ (refs As).take i)) = J3 at s3 e3 ⊢
  have s23 := s2.trans s3
  have hlen' : (As ++ As.take i).length < 64 := by
    rw [List.length_append, List.length_take]
    rw [List.length_take, List.length_map] at hlen
    exact hlen
  refine ⟨bx, q, d, _, rfl, bx_same s23 B1, e3, hlen', fun p' L J4 _ hp pm B4 x4 => ?_⟩
  refine k L p' J4 (fun z hz => ?_) (fun z hz => pm.mem_iff.mpr (List.mem_append_left _ hz)) (by rw [pm.length_eq]; exact hlen') hp B4 ((k1.xt.trans (Same.xt s23)).trans x4)
  rcases List.mem_append.mp (pm.mem_iff.mp hz) with h | h
  · exact h
  · exact List.mem_of_mem_take h
end
end Wb
namespace Wb
open PySem PySem.Spec PyProof.Rows L2 RZ Sg
abbrev sLaw : Stmt := topS 26
abbrev NL : List Str := ["_law_script", "_law_box_here", "_law_k", "_law_m", "_law_my_arrows", "_law_my_marks", "_law_handed", "_law_web_here"]
theorem scLw : FnScope NL ["_law_script"] (defScope sLaw) := ⟨rfl, rfl, rfl, by decide +kernel, rfl, by decide +kernel, by decide +kernel⟩
/-- all but c and d stays -/
def Yt (c d : Addr) (H H' : Hp) : Prop := ∀ e o, e ≠ c → e ≠ d → H e = some o → H' e = some o
theorem Yt.same {c d : Addr} {H J J' : Hp} (y : Yt c d H J) (s : Same J J') : Yt c d H J' := fun e o h1 h2 h => s _ _ (y e o h1 h2 h)
theorem Yt.put1 {c d : Addr} {H J : Hp} {u : HO} (y : Yt c d H J) : Yt c d H (upd J c u) := fun e o h1 h2 h => by
  rw [upd_ne h1]
  exact y e o h1 h2 h
theorem Yt.put2 {c d : Addr} {H J : Hp} {u : HO} (y : Yt c d H J) : Yt c d H (upd J d u) := fun e o h1 h2 h => by
  rw [upd_ne h2]
  exact y e o h1 h2 h
theorem two_can {L M : List TK} (h1 : ∀ p ∈ L, ∀ z ∈ p.2, okK z = true) (h2 : ∀ p ∈ M, ∀ z ∈ p.2, okK z = true) : PyData.canLay0 (.list [lD L, lD M]) = true := by
  rw [PyData.canLay0]
  refine can_all fun d hd => ?_
  simp only [List.mem_cons, List.not_mem_nil, or_false] at hd
  rcases hd with rfl | rfl
  · exact can_list h1
  · exact can_list h2
theorem two_shaped {L M : List TK} (h1 : ∀ p ∈ L, ∀ z ∈ p.2, okK z = true) (h2 : ∀ p ∈ M, ∀ z ∈ p.2, okK z = true) : SeqAt.shaped (.list [lD L, lD M]) = true := by
  unfold SeqAt.shaped
  have : PyData.depth (.list [lD L, lD M]) ≤ 3 := by
    rw [PyData.depth]
    have := deep_all (n := 2) (ds := [lD L, lD M]) fun d hd => by
      simp only [List.mem_cons, List.not_mem_nil, or_false] at hd
      rcases hd with rfl | rfl
      · exact deep_list L
      · exact deep_list M
    omega
  rw [two_can h1 h2, decide_eq_true (by omega)]
  rfl
section
variable {P : Program} {w : World} {K : PySem.W.Frag} {mg : Str → Option Value} {base : Heap}
def spLaw (K : PySem.W.Frag) : Sp := fun vs H Q _ => ∃ (a : Addr) (ns : List Int), vs = [.ref a] ∧ SqL K H a (ns.map V.int) ∧ ns.length ≤ 63 ∧ ∀ H', Q (.bl true) H'
structure Bl (mg : Str → Option Value) : Prop where
  range : mg "range" = none
  list : mg "list" = none
  tuple : mg "tuple" = none
  mp : ∃ t, mg "MOST_POINTS" = some (.int 81 t)
  co : ∃ t, mg "COLOURS" = some (.str "abc" t)
  ma : ∃ t, mg "MARKS" = some (.str "pqr" t)
set_option maxHeartbeats 8000000 in
theorem ok_law {f fB fT fW fX fS fD fI fA fM C ta tm : Addr} {fd dB dT dW dX dS dD dI dA dM : FuncData} (F : Fun K "law" "law" sLaw f fd) (b : Bl mg) (c : Cls K C) (gW : mg "Web" = some (.ref C)) (M : Mk K C fI)
    (FI : FunD K "__init__" "Web.__init__" (defArgs sInit) (defBody sInit) (defScope sInit) [] [("arrows", .ref ta), ("marks", .ref tm)] fI dI) (oI : FnOk P w K mg base CX0 2 fI dI psI (spInit K C))
    (ea : ∀ H, SqT K H ta []) (em : ∀ H, SqT K H tm [])
    (oB : Df P w K mg base 1 "_law_box" ["_law_script"] (spBox K) fB dB) (oT : Df P w K mg base 1 "_law_take" ["_law_box_here", "_law_many"] spTake fT dT) (oW : Df P w K mg base 5 "_law_web" ["_law_box_here", "_law_low", "_law_high"] (spWeb K) fW dW)
    (oX : Df P w K mg base 2 "_law_mixed" ["_law_box_here", "_law_some"] spMix fX dX) (oS : Df P w K mg base 4 "_law_same" ["_law_found", "_law_due"] (spSame K 3) fS dS) (oD : Df P w K mg base 2 "_law_told" ["_law_web_here"] (spTold C) fD dD)
    (oA : Mf P w K mg base 1 C "arrows" (spArr C) fA dA) (oM : Mf P w K mg base 1 C "marks" (spMrk C) fM dM) : FnOk P w K mg base CX0 6 f fd ["_law_script"] (spLaw K) := by
  obtain ⟨mv1, k1⟩ := kb1 FI (fun z => nomatch z)
  obtain ⟨mv2, k2⟩ := kb2 FI (fun z => nomatch z)
  obtain ⟨mv3, k3⟩ := kb3 FI
  obtain ⟨mv4, k4⟩ := kb4 FI
  obtain ⟨t1, gP⟩ := b.mp
  obtain ⟨t2, gC⟩ := b.co
  obtain ⟨t3, gM⟩ := b.ma
  refine F.ok scLw (fun vs H Q E h => ?_) (fun cdv A outer s H vs Q E hr h => ?_)
  · obtain ⟨a, ns, rfl, _⟩ := h
    rfl
  · obtain ⟨a, ns, rfl, hS, hlen, KQ⟩ := h
    have hu : (A.deeper (envOfC "law" (defScope sLaw) s.heap.objs.size f cdv)).units + 64 < cLine := by
      have := hr.un
      omega
    refine ⟨_, pss_cons (ps_set (i := 1) scLw.nd rfl (.inl rfl) (pe_call oB.ok (hr.mono (by decide)) (by rfl) oB.gl oB.kp oB.bd .nil pass0 (pa_cons (pv 0) pa_nil)))
      (pss_cons (ps_for PassesOwn.never rfl (pi_range1 (by rfl) b.range (pa_cons pe_int pa_nil)) (pg_name (i := 2) scLw.nd rfl (.inl rfl))
        (pss_cons (ps_set (i := 3) scLw.nd rfl (.inl rfl) (pe_call oW.ok hr (by rfl) oW.gl oW.kp oW.bd .nil pass0 (pa_cons (pv 1) (pa_cons pe_int (pa_cons pe_int pa_nil)))))
        (pss_cons (ps_set (i := 4) scLw.nd rfl (.inl rfl) (pe_call oX.ok (hr.mono (by decide)) (by rfl) oX.gl oX.kp oX.bd .nil pass0 (pa_cons (pv 1) (pa_cons (pe_op op_cat (pe_ix ix_tup (pv 3) pe_int (fun _ _ => rfl)) (pe_slice sl_list (pe_ix ix_tup (pv 3) pe_int (fun _ _ => rfl)) po_none (po_some (pe_call oT.ok (hr.mono (by decide)) (by rfl) oT.gl oT.kp oT.bd .nil pass0 (pa_cons (pv 1) (pa_cons pe_int pa_nil)))))) pa_nil))))
        (pss_cons (ps_set (i := 5) scLw.nd rfl (.inl rfl) (pe_call oX.ok (hr.mono (by decide)) (by rfl) oX.gl oX.kp oX.bd .nil pass0 (pa_cons (pv 1) (pa_cons (pe_op op_cat (pe_ix ix_tup (pv 3) pe_int (fun _ _ => rfl)) (pe_slice sl_list (pe_ix ix_tup (pv 3) pe_int (fun _ _ => rfl)) po_none (po_some (pe_call oT.ok (hr.mono (by decide)) (by rfl) oT.gl oT.kp oT.bd .nil pass0 (pa_cons (pv 1) (pa_cons pe_int pa_nil)))))) pa_nil))))
        (pss_cons (ps_set (i := 6) scLw.nd rfl (.inl rfl) (pe_lst (pa_cons (pe_callTy call_list_of (by rfl) b.list boot_list (pa_cons (pv 4) pa_nil)) (pa_cons (pe_callTy call_list_of (by rfl) b.list boot_list (pa_cons (pv 5) pa_nil)) pa_nil))))
        (pss_cons (ps_set (i := 7) scLw.nd rfl (.inl rfl) (pe_makeK M oI (hr.mono (by decide)) (by rfl) gW k1 pass0 (pa_cons (pe_ix ix_tup (pv 3) pe_int (fun _ _ => rfl)) pa_nil) (pk_cons (pe_ix ix_list (pv 6) pe_int (fun _ _ => rfl)) (pk_cons (pe_ix ix_list (pv 6) pe_int (fun _ _ => rfl)) pk_nil))))
        (pss_cons (ps_if (PW.pt (pw_or (pt_cmpR (op_neD hu) (pv 6) (pe_lst (pa_cons (pv 4) (pa_cons (pv 5) pa_nil))) (nomark _))
            (pw_or1 (pt_not (pt_val (pe_call oS.ok (hr.mono (by decide)) (by rfl) oS.gl oS.kp oS.bd .nil pass0 (pa_cons (pe_call oD.ok (hr.mono (by decide)) (by rfl) oD.gl oD.kp oD.bd .nil pass0 (pa_cons (pv 7) pa_nil)) (pa_cons (pv 3) pa_nil)))))))) (pss_one ps_never) pss_nil)
        (pss_cons (ps_expr (pe_bm PySem.F.plainAttrs_list PySem.F.slot_list_append PySem.F.type_list_append mt_append (pe_ix ix_list (pv 6) pe_int (fun _ _ => rfl)) (pa_cons (pe_tup (pa_cons pe_str (pa_cons pe_int (pa_cons pe_int pa_nil)))) pa_nil)))
        (pss_cons (ps_expr (pe_bm0 PySem.F.plainAttrs_list PySem.F.slot_list_clear PySem.F.type_list_clear mt_clear (pe_ix ix_list (pv 6) pe_int (fun _ _ => rfl))))
        (pss_cons (ps_expr (pe_bm PySem.F.plainAttrs_list PySem.F.slot_list_append PySem.F.type_list_append mt_append (pe_meth0 (pv 7) c oA.mt oA.ok (hr.mono (by decide)) oA.bd .nil pass0) (pa_cons (pe_tup pa_nil) pa_nil)))
        (pss_cons (ps_expr (pe_bm0 PySem.F.plainAttrs_list PySem.F.slot_list_reverse PySem.F.type_list_reverse mt_reverse (pe_meth0 (pv 7) c oM.mt oM.ok (hr.mono (by decide)) oM.bd .nil pass0)))
        (pss_cons (ps_if (PW.pt (pw_or (pt_not (pt_val (pe_call oS.ok (hr.mono (by decide)) (by rfl) oS.gl oS.kp oS.bd .nil pass0 (pa_cons (pe_call oD.ok (hr.mono (by decide)) (by rfl) oD.gl oD.kp oD.bd .nil pass0 (pa_cons (pv 7) pa_nil)) (pa_cons (pv 3) pa_nil)))))
            (pw_or1 (pt_not (pt_val (pe_call oS.ok (hr.mono (by decide)) (by rfl) oS.gl oS.kp oS.bd .nil pass0 (pa_cons (pe_call oD.ok (hr.mono (by decide)) (by rfl) oD.gl oD.kp oD.bd .nil pass0 (pa_cons (pe_makeK M oI (hr.mono (by decide)) (by rfl) gW k2 pass0 (pa_cons (pe_ix ix_tup (pv 3) pe_int (fun _ _ => rfl)) pa_nil)
              (pk_cons (pe_callTy call_tuple_of (by rfl) b.tuple (by decide +kernel) (pa_cons (pv 4) pa_nil)) (pk_cons (pe_callTy call_tuple_of (by rfl) b.tuple (by decide +kernel) (pa_cons (pv 5) pa_nil)) pk_nil))) pa_nil)) (pa_cons (pv 3) pa_nil)))))))) (pss_one ps_never) pss_nil)
        (pss_one (ps_if (PW.pt (pw_or (pt_not (pt_val (pe_call oS.ok (hr.mono (by decide)) (by rfl) oS.gl oS.kp oS.bd .nil pass0 (pa_cons (pe_call oD.ok (hr.mono (by decide)) (by rfl) oD.gl oD.kp oD.bd .nil pass0 (pa_cons (pe_makeK0 M oI (hr.mono (by decide)) (by rfl) gW k3 pass0 (pk_cons (pe_ix ix_tup (pv 3) pe_int (fun _ _ => rfl)) pk_nil)) pa_nil))
              (pa_cons (pe_tup (pa_cons (pe_ix ix_tup (pv 3) pe_int (fun _ _ => rfl)) (pa_cons (pe_lst pa_nil) (pa_cons (pe_lst pa_nil) pa_nil)))) pa_nil)))))
            (pw_or1 (pt_not (pt_val (pe_call oS.ok (hr.mono (by decide)) (by rfl) oS.gl oS.kp oS.bd .nil pass0 (pa_cons (pe_call oD.ok (hr.mono (by decide)) (by rfl) oD.gl oD.kp oD.bd .nil pass0 (pa_cons (pe_makeK M oI (hr.mono (by decide)) (by rfl) gW k4 pass0 (pa_cons (pe_ix ix_tup (pv 3) pe_int (fun _ _ => rfl)) pa_nil)
              (pk_cons (pe_ix ix_tup (pv 3) pe_int (fun _ _ => rfl)) pk_nil)) pa_nil)) (pa_cons (pe_tup (pa_cons (pe_ix ix_tup (pv 3) pe_int (fun _ _ => rfl)) (pa_cons (pe_lst pa_nil) (pa_cons (pe_ix ix_tup (pv 3) pe_int (fun _ _ => rfl)) pa_nil)))) pa_nil)))))))) (pss_one ps_never) pss_nil))))))))))))))
      (pss_one (ps_ret (pe_cmpR (op_eqD hu) (pe_lst (pa_cons (pe_glob (v := .int 81) (by rfl) gP ⟨_, rfl⟩) (pa_cons (pe_glob (v := .str "abc") (by rfl) gC ⟨_, rfl⟩) (pa_cons (pe_glob (v := .str "pqr") (by rfl) gM ⟨_, rfl⟩) pa_nil)))) (pe_lst (pa_cons pe_int (pa_cons pe_str (pa_cons pe_str pa_nil)))) (nomark _))))), ?_⟩
    refine seq_set ⟨_, rfl, a, ns, rfl, hS, hlen, fun bx q H1 nb B1 s1 => ?_⟩
    refine ⟨4, rfl, by decide, by decide, for_range (lo := 0) (n := 4) (fun i σ J => ∃ y2 y3 y4 y5 y6 y7, σ = [some (.ref a), some (.ref bx), y2, y3, y4, y5, y6, y7] ∧ Bx J bx q) ⟨_, _, _, _, _, _, rfl, B1⟩ ?_ ?_⟩
    · rintro i σ J hi ⟨y2, y3, y4, y5, y6, y7, rfl, B⟩
      clear B1 s1 nb
      refine seq_set ⟨_, rfl, bx, q, 0, 9, rfl, B, by decide, by decide, by decide, fun p n am mm As Ms J1 n0 n9 W B1 x1 => ?_⟩
      refine seq_set (read_mix rfl rfl B1 W.tp (atI_nat (j := 1) rfl) W.ha W.la (by decide) (by decide) fun L4 p4 J2 i4 j4 l4 h4 B2 x2 => ?_)
      have W2 := W.xt B1 x2
      refine seq_set (read_mix rfl rfl B2 W2.tp (atI_nat (j := 2) rfl) W2.hm W2.lm (by decide) (by decide) fun L5 p5 J3 i5 j5 l5 h5 B3 x3 => ?_)
      have W3 := W2.xt B2 x3
      have h43 := x3 _ _ (bx_nr B2 h4) h4
      clear W W2 x1 x2 x3 h4 B B1 B2
      have t4 : ∀ z ∈ L4, TieK 128 3 z.2 := fun z hz => (W3.ka z (i4 z hz)).tie (by omega)
      have t5 : ∀ z ∈ L5, TieK 128 2 z.2 := fun z hz => (W3.km z (i5 z hz)).tie (by omega)
      have tA : ∀ z ∈ As, TieK 128 3 z.2 := fun z hz => (W3.ka z hz).tie (by omega)
      have tM : ∀ z ∈ Ms, TieK 128 2 z.2 := fun z hz => (W3.km z hz).tie (by omega)
      have m4 : ∀ k, k ∈ L4.map (·.2) ↔ k ∈ As.map (·.2) := fun k => ⟨fun h => by
        obtain ⟨z, hz, e⟩ := List.mem_map.mp h
        exact List.mem_map.mpr ⟨z, i4 z hz, e⟩, fun h => by
        obtain ⟨z, hz, e⟩ := List.mem_map.mp h
        exact List.mem_map.mpr ⟨z, j4 z hz, e⟩⟩
      have m5 : ∀ k, k ∈ L5.map (·.2) ↔ k ∈ Ms.map (·.2) := fun k => ⟨fun h => by
        obtain ⟨z, hz, e⟩ := List.mem_map.mp h
        exact List.mem_map.mpr ⟨z, i5 z hz, e⟩, fun h => by
        obtain ⟨z, hz, e⟩ := List.mem_map.mp h
        exact List.mem_map.mpr ⟨z, j5 z hz, e⟩⟩
      have n1 : n ≤ 81 := by omega
      refine seq_set ⟨_, rfl, p4, _, rfl, .inl (SqL.of h43), fun c4 n4 => ⟨_, rfl, p5, _, rfl, .inl (SqL.of (same_upd n4 _ _ h5)), fun c5 n5 => ⟨by show 2 ≤ sizeLine; decide, fun hd nhd => ?_⟩⟩⟩
      have sa := same_upd (o := .lst (refs L4)) n4
      have sb := same_upd (o := .lst (refs L5)) n5
      have sc := same_upd (o := .lst [.ref c4, .ref c5]) nhd
      have s34 := (sa.trans sb).trans sc
      have e4 := sc _ _ (sb _ _ (upd_same (H := J3) (a := c4) (o := .lst (refs L4))))
      have e5 := sc _ _ (upd_same (H := upd J3 c4 (.lst (refs L4))) (a := c5) (o := .lst (refs L5)))
      have eh := upd_same (H := upd (upd J3 c4 (.lst (refs L4))) c5 (.lst (refs L5))) (a := hd) (o := .lst [.ref c4, .ref c5])
      have d45 : c4 ≠ c5 := ne_of_none upd_same n5
      have dh4 : hd ≠ c4 := (ne_of_none (sb _ _ upd_same) nhd).symm
      have dh5 : hd ≠ c5 := (ne_of_none upd_same nhd).symm
      have n5' : J3 c5 = none := sa.free n5
      generalize upd (upd (upd J3 c4 (.lst (refs L4))) c5 (.lst (refs L5))) hd (.lst [.ref c4, .ref c5]) = J4 at s34 e4 e5 eh ⊢
      clear sa sb sc n5 nhd
      have q4 : ∀ z ∈ L4, SqT K J4 z.1 (z.2.map kV) := fun z hz => same_tup s34 (W3.qa z (i4 z hz))
      have q5 : ∀ z ∈ L5, SqT K J4 z.1 (z.2.map kV) := fun z hz => same_tup s34 (W3.qm z (i5 z hz))
      refine seq_set ⟨_, rfl, p, _, 0, .int n, rfl, rfl, SqT.of (s34 _ _ W3.tp), atI_nat (j := 0) rfl, _, rfl, hd, _, 1, .ref c5, rfl, rfl, SqL.of eh, atI_nat (j := 1) rfl, _, rfl, hd, _, 0, .ref c4, rfl, rfl, SqL.of eh, atI_nat (j := 0) rfl, rfl, rfl, fun x dx nx ndx ne => ?_⟩
      refine mk_use nx ndx ne n0 n1 ⟨.inl (SqL.of e4), q4⟩ (fun z hz => W3.ka z (i4 z hz)) l4 ⟨.inl (SqL.of e5), q5⟩ (fun z hz => W3.km z (i5 z hz)) l5 fun J5 Us Vs Wx sU sV s45 => ?_
      have eU := srt_eq sU m4 t4 tA W3.na W3.ra
      have eV := srt_eq sV m5 t5 tM W3.nm W3.rm
      have qU : ∀ {J' : Hp}, Same J3 J' → ∀ z ∈ Us, SqT K J' z.1 (z.2.map kV) := fun s z hz => same_tup s (W3.qa z (i4 z (sU.of z hz)))
      have qV : ∀ {J' : Hp}, Same J3 J' → ∀ z ∈ Vs, SqT K J' z.1 (z.2.map kV) := fun s z hz => same_tup s (W3.qm z (i5 z (sV.of z hz)))
      clear nx ndx ne
      have s35 := s34.trans s45
      refine seq_if ⟨_, rfl, _, rfl, _, rfl, by show 2 ≤ sizeLine; decide, fun e ne => ?_⟩
      have s6 := same_upd (o := .lst [.ref p4, .ref p5]) ne
      have ee := upd_same (H := J5) (a := e) (o := .lst [.ref p4, .ref p5])
      generalize upd J5 e (.lst [.ref p4, .ref p5]) = J6 at s6 ee ⊢
      have s46 := s45.trans s6
      have s36 := s34.trans s46
      have o4 := fun z hz => (t4 z hz).ok
      have o5 := fun z hz => (t5 z hz).ok
      refine ⟨.list [lD L4, lD L5], .list [lD L4, lD L5], .lst (SqL.of (s46 _ _ eh)) (.cons (dp_list (SqL.of (s46 _ _ e4)) fun z hz => same_tup s46 (q4 z hz)) (.cons (dp_list (SqL.of (s46 _ _ e5)) fun z hz => same_tup s46 (q5 z hz)) .nil)),
        .lst (SqL.of ee) (.cons (dp_list (SqL.of (s36 _ _ h43)) fun z hz => same_tup s46 (q4 z hz)) (.cons (dp_list (SqL.of (s36 _ _ h5)) fun z hz => same_tup s46 (q5 z hz)) .nil)), two_shaped o4 o5, two_shaped o4 o5, _, rfl, ?_⟩
      rw [SeqAt.eqv_refl _ (two_can o4 o5)]
      refine iteF ?_
      refine ⟨_, rfl, x, n, Us, Vs, rfl, Wx J6 (fun c o _ h => s6 _ _ h), n0, fun tp ta' tm' J7 s7 g1 g2 g3 => ?_⟩
      have s37 := s36.trans s7
      refine ⟨_, rfl, .ref tp, .ref p, rfl, sv_told g1 g2 g3 (W3.same s37) eU eV (qU s37) (qV s37), fun J8 s8 => ⟨true, rfl, ?_⟩⟩
      refine iteF (seq_next ?_)
      have s48 := (s46.trans s7).trans s8
      have Y8 : Yt c4 c5 J5 J8 := fun c o _ _ h => s8 _ _ (s7 _ _ (s6 _ _ h))
      have h8 := s48 _ _ eh
      have e48 := s48 _ _ e4
      have e58 := s48 _ _ e5
      have l4' : (refs L4).length < 64 := by
        rw [List.length_map]
        exact l4
      clear s37 s36 s46 s7 s8 g1 g2 g3 s6 ee ne
      generalize J8 = K0 at Y8 h8 e48 e58 ⊢
      refine seq_drop ⟨_, rfl, hd, _, 0, .ref c4, rfl, rfl, SqL.of h8, atI_nat (j := 0) rfl, .inl ⟨rfl, _, SqL.of e48⟩, by show 3 ≤ sizeLine; decide, fun tt nt => ⟨c4, _, _, rfl, rfl, same_upd nt _ _ e48, small1000 (by omega), ?_⟩⟩
      have st := same_upd (o := .tup [.str "a", .int 0, .int 0]) nt
      have Y9 : Yt c4 c5 J5 (upd (upd K0 tt (.tup [.str "a", .int 0, .int 0])) c4 (.lst (refs L4 ++ [.ref tt]))) := (Y8.same st).put1
      have h9 : (upd (upd K0 tt (.tup [.str "a", .int 0, .int 0])) c4 (.lst (refs L4 ++ [.ref tt]))) hd = some (.lst [.ref c4, .ref c5]) := by
        rw [upd_ne dh4]
        exact st _ _ h8
      have e59 : (upd (upd K0 tt (.tup [.str "a", .int 0, .int 0])) c4 (.lst (refs L4 ++ [.ref tt]))) c5 = some (.lst (refs L5)) := by
        rw [upd_ne d45.symm]
        exact st _ _ e58
      generalize upd (upd K0 tt (.tup [.str "a", .int 0, .int 0])) c4 (.lst (refs L4 ++ [.ref tt])) = K1 at Y9 h9 e59 ⊢
      clear Y8 h8 e48 e58 st nt
      refine seq_drop ⟨_, rfl, hd, _, 1, .ref c5, rfl, rfl, SqL.of h9, atI_nat (j := 1) rfl, .inl ⟨rfl, _, SqL.of e59⟩, c5, _, rfl, rfl, e59, ?_⟩
      have Y10 : Yt c4 c5 J5 (upd K1 c5 (.lst [])) := Y9.put2
      generalize upd K1 c5 (.lst []) = K2 at Y10 ⊢
      clear Y9 h9 e59
      have wk : ∀ {J' : Hp}, Yt c4 c5 J5 J' → WebAt C J' x n Us Vs := fun {J'} y => Wx J' fun c o hc h => y c o (fun z => by rw [z, e4] at hc; cases hc) (fun z => by rw [z, e5] at hc; cases hc) h
      have sk : ∀ {J' : Hp}, Yt c4 c5 J5 J' → Same J3 J' := fun {J'} y c o h => y c o (ne_of_none h n4) (ne_of_none h n5') (s35 _ _ h)
      have w2 := wk Y10
      obtain ⟨dx2, pl2, ar2, mr2, ow2, bw2, hx2, _⟩ := id w2.ex
      refine seq_drop ⟨_, rfl, x, dx2, _, rfl, hx2, rfl, x, n, Us, Vs, rfl, w2, fun u nu => ?_⟩
      have lU : Us.length < 64 := Nat.lt_of_le_of_lt sU.len l4
      refine ⟨.inl ⟨rfl, _, SqL.of upd_same⟩, Nat.zero_le _, fun tt nt => ⟨u, _, _, rfl, rfl, same_upd nt _ _ upd_same, small1000 (by rw [List.length_map]; omega), ?_⟩⟩
      have Y11 : Yt c4 c5 J5 (upd (upd (upd K2 u (.lst (refs Us))) tt (.tup [])) u (.lst (refs Us ++ [.ref tt]))) := fun c o h1 h2 h => by
        have hu' := Y10 c o h1 h2 h
        rw [upd_ne (ne_of_none hu' nu)]
        exact same_upd nt _ _ (same_upd nu _ _ hu')
      generalize upd (upd (upd K2 u (.lst (refs Us))) tt (.tup [])) u (.lst (refs Us ++ [.ref tt])) = K3 at Y11 ⊢
      clear Y10 w2 hx2 nu nt
      have w3 := wk Y11
      obtain ⟨dx3, pl3, ar3, mr3, ow3, bw3, hx3, _⟩ := id w3.ex
      refine seq_drop ⟨_, rfl, x, dx3, _, rfl, hx3, rfl, x, n, Us, Vs, rfl, w3, fun u nu => ?_⟩
      refine ⟨.inl ⟨rfl, _, SqL.of upd_same⟩, u, _, rfl, rfl, upd_same, ?_⟩
      have Y12 : Yt c4 c5 J5 (upd (upd K3 u (.lst (refs Vs))) u (.lst (refs Vs).reverse)) := fun c o h1 h2 h => by
        have hu' := Y11 c o h1 h2 h
        rw [upd_ne (ne_of_none hu' nu)]
        exact same_upd nu _ _ hu'
      generalize upd (upd K3 u (.lst (refs Vs))) u (.lst (refs Vs).reverse) = K4 at Y12 ⊢
      clear Y11 w3 hx3 nu
      have s3 := sk Y12
      -- asked again
      refine seq_if ⟨_, rfl, x, n, Us, Vs, rfl, wk Y12, n0, fun tp ta' tm' J7 s7 g1 g2 g3 => ?_⟩
      have s37 := s3.trans s7
      refine ⟨_, rfl, .ref tp, .ref p, rfl, sv_told g1 g2 g3 (W3.same s37) eU eV (qU s37) (qV s37), fun J8 s8 => ⟨true, rfl, ?_⟩⟩
      refine iteF ?_
      have s38 := s37.trans s8
      clear s37 s7 s8 g1 g2 g3 s3 Y12
      -- from tuples
      refine ⟨_, rfl, p, _, 0, .int n, rfl, rfl, SqT.of (s38 _ _ W3.tp), atI_nat (j := 0) rfl, _, rfl, p4, _, rfl, .inl ⟨SqL.of (s38 _ _ h43), fun u4 nu4 => ?_⟩⟩
      have sa := same_upd (o := .tup (refs L4)) nu4
      have ea4 := upd_same (H := J8) (a := u4) (o := .tup (refs L4))
      generalize upd J8 u4 (.tup (refs L4)) = K5 at sa ea4 ⊢
      have s39 := s38.trans sa
      refine ⟨_, rfl, p5, _, rfl, .inl ⟨SqL.of (s39 _ _ h5), fun u5 nu5 => ?_⟩⟩
      have sb := same_upd (o := .tup (refs L5)) nu5
      have ea5 := upd_same (H := K5) (a := u5) (o := .tup (refs L5))
      have ea4' := sb _ _ ea4
      generalize upd K5 u5 (.tup (refs L5)) = K6 at sb ea5 ea4' ⊢
      have s310 := s39.trans sb
      clear s38 sa sb ea4 s39 nu4 nu5
      refine ⟨rfl, rfl, fun x2 dx2 nx2 ndx2 ne2 => ?_⟩
      refine mk_use nx2 ndx2 ne2 n0 n1 ⟨.inr (SqT.of ea4'), fun z hz => same_tup s310 (W3.qa z (i4 z hz))⟩ (fun z hz => W3.ka z (i4 z hz)) l4 ⟨.inr (SqT.of ea5), fun z hz => same_tup s310 (W3.qm z (i5 z hz))⟩ (fun z hz => W3.km z (i5 z hz)) l5 fun K7 Us2 Vs2 Wx2 sU2 sV2 s11 => ?_
      have eU2 := srt_eq sU2 m4 t4 tA W3.na W3.ra
      have eV2 := srt_eq sV2 m5 t5 tM W3.nm W3.rm
      refine ⟨x2, n, Us2, Vs2, rfl, Wx2 K7 (fun c o _ h => h), n0, fun tp ta' tm' J7 s7 g1 g2 g3 => ?_⟩
      have s37 := (s310.trans s11).trans s7
      refine ⟨_, rfl, .ref tp, .ref p, rfl, sv_told g1 g2 g3 (W3.same s37) eU2 eV2 (fun z hz => same_tup s37 (W3.qa z (i4 z (sU2.of z hz)))) (fun z hz => same_tup s37 (W3.qm z (i5 z (sV2.of z hz)))), fun J9 s9 => ⟨true, rfl, ?_⟩⟩
      refine iteF (seq_next ?_)
      have s12 := s37.trans s9
      clear s37 s7 s9 g1 g2 g3 s11 s310 ea5 ea4' nx2 ndx2 ne2 Wx2
      -- by points alone
      refine ⟨_, rfl, p, _, 0, .int n, rfl, rfl, SqT.of (s12 _ _ W3.tp), atI_nat (j := 0) rfl, rfl, rfl, fun x3 dx3 nx3 ndx3 ne3 => ?_⟩
      refine mk_use (ka := []) (km := []) nx3 ndx3 ne3 n0 n1 ⟨.inr (ea _), (fun z hz => nomatch hz)⟩ (fun z hz => nomatch hz) (by decide) ⟨.inr (em _), (fun z hz => nomatch hz)⟩ (fun z hz => nomatch hz) (by decide) fun K8 U3 V3 Wx3 sU3 sV3 s13 => ?_
      have eU3 : U3 = [] := List.eq_nil_iff_forall_not_mem.mpr fun z hz => nomatch sU3.of z hz
      have eV3 : V3 = [] := List.eq_nil_iff_forall_not_mem.mpr fun z hz => nomatch sV3.of z hz
      subst eU3 eV3
      refine ⟨x3, n, [], [], rfl, Wx3 K8 (fun c o _ h => h), n0, fun tp ta' tm' J7 s7 g1 g2 g3 => ?_⟩
      have s37 := (s12.trans s13).trans s7
      refine ⟨_, rfl, p, _, 0, .int n, rfl, rfl, SqT.of (s37 _ _ W3.tp), atI_nat (j := 0) rfl, Nat.zero_le _, fun f1 nf1 => ⟨Nat.zero_le _, fun f2 nf2 => ⟨by show 3 ≤ sizeLine; decide, fun f3 nf3 => ?_⟩⟩⟩
      have sf1 := same_upd (o := .lst []) nf1
      have sf2 := same_upd (o := .lst []) nf2
      have sf3 := same_upd (o := .tup [.int n, .ref f1, .ref f2]) nf3
      have sf := (sf1.trans sf2).trans sf3
      have wf : MW K (upd (upd (upd J7 f1 (.lst [])) f2 (.lst [])) f3 (.tup [.int n, .ref f1, .ref f2])) f3 n f1 f2 [] [] := ⟨upd_same, sf3 _ _ (sf2 _ _ upd_same), sf3 _ _ upd_same, (fun z hz => nomatch hz), (fun z hz => nomatch hz), (fun z hz => nomatch hz), (fun z hz => nomatch hz), List.Pairwise.nil, List.Pairwise.nil, List.Pairwise.nil, List.Pairwise.nil, Nat.zero_le _, Nat.zero_le _, n0, by omega⟩
      have s3f := s37.trans sf
      refine ⟨.ref tp, .ref f3, rfl, sv_told (sf _ _ g1) (sf _ _ g2) (sf _ _ g3) wf rfl rfl (fun z hz => nomatch hz) (fun z hz => nomatch hz), fun J10 s10 => ⟨true, rfl, ?_⟩⟩
      refine iteF ?_
      have s14 := s3f.trans s10
      clear s3f s10 wf sf sf1 sf2 sf3 nf1 nf2 nf3 s37 s7 g1 g2 g3 s13 s12 nx3 ndx3 ne3 Wx3
      -- with marks alone
      refine ⟨_, rfl, p, _, 0, .int n, rfl, rfl, SqT.of (s14 _ _ W3.tp), atI_nat (j := 0) rfl, _, rfl, p, _, 2, .ref mm, rfl, rfl, SqT.of (s14 _ _ W3.tp), atI_nat (j := 2) rfl, rfl, rfl, fun x4 dx4 nx4 ndx4 ne4 => ?_⟩
      have lM := W3.lm
      refine mk_use (ka := []) (km := Ms) nx4 ndx4 ne4 n0 n1 ⟨.inr (ea _), (fun z hz => nomatch hz)⟩ (fun z hz => nomatch hz) (by decide) ⟨.inl (SqL.of (s14 _ _ W3.hm)), fun z hz => same_tup s14 (W3.qm z hz)⟩ W3.km (by omega) fun K9 U4 V4 Wx4 sU4 sV4 s15 => ?_
      have eU4 : U4 = [] := List.eq_nil_iff_forall_not_mem.mpr fun z hz => nomatch sU4.of z hz
      subst eU4
      have eV4 : V4.map (·.2) = Ms.map (·.2) := srt_eq sV4 (fun k => Iff.rfl) tM tM W3.nm W3.rm
      refine ⟨x4, n, [], V4, rfl, Wx4 K9 (fun c o _ h => h), n0, fun tp ta' tm' J11 s16 g1 g2 g3 => ?_⟩
      have s3b := (s14.trans s15).trans s16
      refine ⟨_, rfl, p, _, 0, .int n, rfl, rfl, SqT.of (s3b _ _ W3.tp), atI_nat (j := 0) rfl, Nat.zero_le _, fun f1 nf1 => ⟨_, rfl, p, _, 2, .ref mm, rfl, rfl, SqT.of (same_upd nf1 _ _ (s3b _ _ W3.tp)), atI_nat (j := 2) rfl, by show 3 ≤ sizeLine; decide, fun f3 nf3 => ?_⟩⟩
      have sf1 := same_upd (o := .lst []) nf1
      have sf3 := same_upd (o := .tup [.int n, .ref f1, .ref mm]) nf3
      have sf := sf1.trans sf3
      have s3f := s3b.trans sf
      have wf : MW K (upd (upd J11 f1 (.lst [])) f3 (.tup [.int n, .ref f1, .ref mm])) f3 n f1 mm [] Ms := ⟨upd_same, sf3 _ _ upd_same, s3f _ _ W3.hm, (fun z hz => nomatch hz), fun z hz => same_tup s3f (W3.qm z hz), (fun z hz => nomatch hz), W3.km, List.Pairwise.nil, W3.nm, List.Pairwise.nil, W3.rm, Nat.zero_le _, W3.lm, n0, by omega⟩
      refine ⟨.ref tp, .ref f3, rfl, sv_told (sf _ _ g1) (sf _ _ g2) (sf _ _ g3) wf rfl eV4 (fun z hz => nomatch hz) (fun z hz => same_tup s3f (W3.qm z (sV4.of z hz))), fun J12 s17 => ⟨true, rfl, ?_⟩⟩
      refine iteF ?_
      exact ⟨_, _, _, _, _, _, rfl, bx_same (s3f.trans s17) B3⟩
    · rintro σ J ⟨y2, y3, y4, y5, y6, y7, rfl, B⟩
      refine ⟨by show 3 ≤ sizeLine; decide, fun r1 nr1 => ⟨by show 3 ≤ sizeLine; decide, fun r2 nr2 => ?_⟩⟩
      refine ⟨.list [.int 81, .str "abc", .str "pqr"], .list [.int 81, .str "abc", .str "pqr"], .lst (SqL.of (same_upd nr2 _ _ upd_same)) (.cons (.int _) (.cons (.str _) (.cons (.str _) .nil))), .lst (SqL.of upd_same) (.cons (.int _) (.cons (.str _) (.cons (.str _) .nil))), by decide +kernel, by decide +kernel, ?_⟩
      rw [show PyData.eqv (.list [.int 81, .str "abc", .str "pqr"]) (.list [.int 81, .str "abc", .str "pqr"]) = true by decide +kernel]
      exact KQ _
end
end Wb
namespace Wb
open PySem PySem.Spec PyProof.Rows L2 RZ Sg
def fI (K : PySem.W.Frag) (C : Addr) (x : Str) (v : Option Value) : Bool := decide (PySem.W.findIn K (.ref C) x = some v)
def chk (K : PySem.W.Frag) (C fI' fP fA fM : Addr) : List Bool := [PySem.W.plainGet K C Str.empty, PySem.W.hasDictIn K C, PySem.W.plainOver K C, fI K C "__setattr__" (some (.builtin "object.__setattr__")),
  fI K C "places" none, fI K C "arrow_rows" none, fI K C "mark_rows" none, fI K C "onward" none, fI K C "backward" none,
  PySem.W.makesIn K C, fI K C "__init__" (some (.ref fI')), PySem.W.isFn K (.ref fI'), PySem.W.keepIn K (.ref C),
  fI K C "points" (some (.ref fP)), PySem.W.isFn K (.ref fP), fI K C "arrows" (some (.ref fA)), PySem.W.isFn K (.ref fA), fI K C "marks" (some (.ref fM)), PySem.W.isFn K (.ref fM)]
theorem nd {K : PySem.W.Frag} {C : Addr} {x : Str} (h : fI K C x none = true) : NoAttr K C x := (of_decide_eq_true h : PySem.W.findIn K (.ref C) x = some none)
theorem all_get {l : List Bool} (h : l.all id = true) (n : Nat) {b : Bool} (e : l[n]? = some b) : b = true := List.all_eq_true.mp h b (List.mem_of_getElem? e)
set_option maxHeartbeats 4000000 in
theorem all_mk {l : PySem.W.OpenLaw} {w : World} {K : PySem.W.Frag} {h : Heap} {mg : Str → Option Value} {fa : Addr} {f_sRA : Addr}
    {oc_sRA kV_sRA dc_sRA pm_sRA cd_sRA ct_sRA : Value} {od_sRA an_sRA : Option Addr} {sl_sRA : Array (Option Value)}
    {f_sRM : Addr}
    {oc_sRM kV_sRM dc_sRM pm_sRM cd_sRM ct_sRM : Value} {od_sRM an_sRM : Option Addr} {sl_sRM : Array (Option Value)}
    {f_sGat : Addr}
    {oc_sGat kV_sGat dc_sGat pm_sGat cd_sGat ct_sGat : Value} {od_sGat an_sGat : Option Addr} {sl_sGat : Array (Option Value)}
    {f_sBox : Addr}
    {oc_sBox kV_sBox dc_sBox pm_sBox cd_sBox ct_sBox : Value} {od_sBox an_sBox : Option Addr} {sl_sBox : Array (Option Value)}
    {f_sTake : Addr}
    {oc_sTake kV_sTake dc_sTake pm_sTake cd_sTake ct_sTake : Value} {od_sTake an_sTake : Option Addr} {sl_sTake : Array (Option Value)}
    {f_sOne : Addr}
    {oc_sOne kV_sOne dc_sOne pm_sOne cd_sOne ct_sOne : Value} {od_sOne an_sOne : Option Addr} {sl_sOne : Array (Option Value)}
    {f_sMixed : Addr}
    {oc_sMixed kV_sMixed dc_sMixed pm_sMixed cd_sMixed ct_sMixed : Value} {od_sMixed an_sMixed : Option Addr} {sl_sMixed : Array (Option Value)}
    {f_sSame : Addr}
    {oc_sSame kV_sSame dc_sSame pm_sSame cd_sSame ct_sSame : Value} {od_sSame an_sSame : Option Addr} {sl_sSame : Array (Option Value)}
    {f_sUnlike : Addr}
    {oc_sUnlike kV_sUnlike dc_sUnlike pm_sUnlike cd_sUnlike ct_sUnlike : Value} {od_sUnlike an_sUnlike : Option Addr} {sl_sUnlike : Array (Option Value)}
    {f_sHue : Addr}
    {oc_sHue kV_sHue dc_sHue pm_sHue cd_sHue ct_sHue : Value} {od_sHue an_sHue : Option Addr} {sl_sHue : Array (Option Value)}
    {f_sSign : Addr}
    {oc_sSign kV_sSign dc_sSign pm_sSign cd_sSign ct_sSign : Value} {od_sSign an_sSign : Option Addr} {sl_sSign : Array (Option Value)}
    {f_sArrow : Addr}
    {oc_sArrow kV_sArrow dc_sArrow pm_sArrow cd_sArrow ct_sArrow : Value} {od_sArrow an_sArrow : Option Addr} {sl_sArrow : Array (Option Value)}
    {f_sWeb : Addr}
    {oc_sWeb kV_sWeb dc_sWeb pm_sWeb cd_sWeb ct_sWeb : Value} {od_sWeb an_sWeb : Option Addr} {sl_sWeb : Array (Option Value)}
    {f_sTold : Addr}
    {oc_sTold kV_sTold dc_sTold pm_sTold cd_sTold ct_sTold : Value} {od_sTold an_sTold : Option Addr} {sl_sTold : Array (Option Value)}
    {f_sLaw : Addr}
    {oc_sLaw kV_sLaw dc_sLaw pm_sLaw cd_sLaw ct_sLaw : Value} {od_sLaw an_sLaw : Option Addr} {sl_sLaw : Array (Option Value)}
    {C f_sInit D ta tm : Addr}
    {oc_sInit dc_sInit pm_sInit cd_sInit ct_sInit : Value} {od_sInit an_sInit : Option Addr} {sl_sInit : Array (Option Value)}
    {f_sPoints : Addr}
    {oc_sPoints kV_sPoints dc_sPoints pm_sPoints cd_sPoints ct_sPoints : Value} {od_sPoints an_sPoints : Option Addr} {sl_sPoints : Array (Option Value)}
    {f_sArrows : Addr}
    {oc_sArrows kV_sArrows dc_sArrows pm_sArrows cd_sArrows ct_sArrows : Value} {od_sArrows an_sArrows : Option Addr} {sl_sArrows : Array (Option Value)}
    {f_sMarks : Addr}
    {oc_sMarks kV_sMarks dc_sMarks pm_sMarks cd_sMarks ct_sMarks : Value} {od_sMarks an_sMarks : Option Addr} {sl_sMarks : Array (Option Value)}
    {odta : Option Addr} {nta : Nat} {slta : Array (Option Value)}
    {odtm : Option Addr} {ntm : Nat} {sltm : Array (Option Value)}
    {t1 t2 t3 : Tok}
    (X : K.In h) (G : h.Ns mainGlobals mg) (hfa : mg "law" = some (.ref fa))
    (a_sRA : PySem.W.nsIn K mainGlobals "refuse_bad_arrows" = some (some (.ref f_sRA)))
    (l_sRA : K.lookup f_sRA = some ⟨oc_sRA, od_sRA, .func (PySem.W.fnOf "refuse_bad_arrows" "refuse_bad_arrows" (defArgs sRA) (defBody sRA) (defScope sRA) .none kV_sRA dc_sRA pm_sRA an_sRA cd_sRA ct_sRA), sl_sRA⟩) (c_sRA : PySem.W.codeIn K cd_sRA "refuse_bad_arrows" = true) (k_sRA : PySem.W.keepIn K (.ref f_sRA) = true)
    (a_sRM : PySem.W.nsIn K mainGlobals "refuse_bad_marks" = some (some (.ref f_sRM)))
    (l_sRM : K.lookup f_sRM = some ⟨oc_sRM, od_sRM, .func (PySem.W.fnOf "refuse_bad_marks" "refuse_bad_marks" (defArgs sRM) (defBody sRM) (defScope sRM) .none kV_sRM dc_sRM pm_sRM an_sRM cd_sRM ct_sRM), sl_sRM⟩) (c_sRM : PySem.W.codeIn K cd_sRM "refuse_bad_marks" = true) (k_sRM : PySem.W.keepIn K (.ref f_sRM) = true)
    (a_sGat : PySem.W.nsIn K mainGlobals "gathered" = some (some (.ref f_sGat)))
    (l_sGat : K.lookup f_sGat = some ⟨oc_sGat, od_sGat, .func (PySem.W.fnOf "gathered" "gathered" (defArgs sGat) (defBody sGat) (defScope sGat) .none kV_sGat dc_sGat pm_sGat an_sGat cd_sGat ct_sGat), sl_sGat⟩) (c_sGat : PySem.W.codeIn K cd_sGat "gathered" = true) (k_sGat : PySem.W.keepIn K (.ref f_sGat) = true)
    (a_sBox : PySem.W.nsIn K mainGlobals "_law_box" = some (some (.ref f_sBox)))
    (l_sBox : K.lookup f_sBox = some ⟨oc_sBox, od_sBox, .func (PySem.W.fnOf "_law_box" "_law_box" (defArgs sBox) (defBody sBox) (defScope sBox) .none kV_sBox dc_sBox pm_sBox an_sBox cd_sBox ct_sBox), sl_sBox⟩) (c_sBox : PySem.W.codeIn K cd_sBox "_law_box" = true) (k_sBox : PySem.W.keepIn K (.ref f_sBox) = true)
    (a_sTake : PySem.W.nsIn K mainGlobals "_law_take" = some (some (.ref f_sTake)))
    (l_sTake : K.lookup f_sTake = some ⟨oc_sTake, od_sTake, .func (PySem.W.fnOf "_law_take" "_law_take" (defArgs sTake) (defBody sTake) (defScope sTake) .none kV_sTake dc_sTake pm_sTake an_sTake cd_sTake ct_sTake), sl_sTake⟩) (c_sTake : PySem.W.codeIn K cd_sTake "_law_take" = true) (k_sTake : PySem.W.keepIn K (.ref f_sTake) = true)
    (a_sOne : PySem.W.nsIn K mainGlobals "_law_one" = some (some (.ref f_sOne)))
    (l_sOne : K.lookup f_sOne = some ⟨oc_sOne, od_sOne, .func (PySem.W.fnOf "_law_one" "_law_one" (defArgs sOne) (defBody sOne) (defScope sOne) .none kV_sOne dc_sOne pm_sOne an_sOne cd_sOne ct_sOne), sl_sOne⟩) (c_sOne : PySem.W.codeIn K cd_sOne "_law_one" = true) (k_sOne : PySem.W.keepIn K (.ref f_sOne) = true)
    (a_sMixed : PySem.W.nsIn K mainGlobals "_law_mixed" = some (some (.ref f_sMixed)))
    (l_sMixed : K.lookup f_sMixed = some ⟨oc_sMixed, od_sMixed, .func (PySem.W.fnOf "_law_mixed" "_law_mixed" (defArgs sMixed) (defBody sMixed) (defScope sMixed) .none kV_sMixed dc_sMixed pm_sMixed an_sMixed cd_sMixed ct_sMixed), sl_sMixed⟩) (c_sMixed : PySem.W.codeIn K cd_sMixed "_law_mixed" = true) (k_sMixed : PySem.W.keepIn K (.ref f_sMixed) = true)
    (a_sSame : PySem.W.nsIn K mainGlobals "_law_same" = some (some (.ref f_sSame)))
    (l_sSame : K.lookup f_sSame = some ⟨oc_sSame, od_sSame, .func (PySem.W.fnOf "_law_same" "_law_same" (defArgs sSame) (defBody sSame) (defScope sSame) .none kV_sSame dc_sSame pm_sSame an_sSame cd_sSame ct_sSame), sl_sSame⟩) (c_sSame : PySem.W.codeIn K cd_sSame "_law_same" = true) (k_sSame : PySem.W.keepIn K (.ref f_sSame) = true)
    (a_sUnlike : PySem.W.nsIn K mainGlobals "_law_unlike" = some (some (.ref f_sUnlike)))
    (l_sUnlike : K.lookup f_sUnlike = some ⟨oc_sUnlike, od_sUnlike, .func (PySem.W.fnOf "_law_unlike" "_law_unlike" (defArgs sUnlike) (defBody sUnlike) (defScope sUnlike) .none kV_sUnlike dc_sUnlike pm_sUnlike an_sUnlike cd_sUnlike ct_sUnlike), sl_sUnlike⟩) (c_sUnlike : PySem.W.codeIn K cd_sUnlike "_law_unlike" = true) (k_sUnlike : PySem.W.keepIn K (.ref f_sUnlike) = true)
    (a_sHue : PySem.W.nsIn K mainGlobals "_law_hue" = some (some (.ref f_sHue)))
    (l_sHue : K.lookup f_sHue = some ⟨oc_sHue, od_sHue, .func (PySem.W.fnOf "_law_hue" "_law_hue" (defArgs sHue) (defBody sHue) (defScope sHue) .none kV_sHue dc_sHue pm_sHue an_sHue cd_sHue ct_sHue), sl_sHue⟩) (c_sHue : PySem.W.codeIn K cd_sHue "_law_hue" = true) (k_sHue : PySem.W.keepIn K (.ref f_sHue) = true)
    (a_sSign : PySem.W.nsIn K mainGlobals "_law_sign" = some (some (.ref f_sSign)))
    (l_sSign : K.lookup f_sSign = some ⟨oc_sSign, od_sSign, .func (PySem.W.fnOf "_law_sign" "_law_sign" (defArgs sSign) (defBody sSign) (defScope sSign) .none kV_sSign dc_sSign pm_sSign an_sSign cd_sSign ct_sSign), sl_sSign⟩) (c_sSign : PySem.W.codeIn K cd_sSign "_law_sign" = true) (k_sSign : PySem.W.keepIn K (.ref f_sSign) = true)
    (a_sArrow : PySem.W.nsIn K mainGlobals "_law_arrow" = some (some (.ref f_sArrow)))
    (l_sArrow : K.lookup f_sArrow = some ⟨oc_sArrow, od_sArrow, .func (PySem.W.fnOf "_law_arrow" "_law_arrow" (defArgs sArrow) (defBody sArrow) (defScope sArrow) .none kV_sArrow dc_sArrow pm_sArrow an_sArrow cd_sArrow ct_sArrow), sl_sArrow⟩) (c_sArrow : PySem.W.codeIn K cd_sArrow "_law_arrow" = true) (k_sArrow : PySem.W.keepIn K (.ref f_sArrow) = true)
    (a_sWeb : PySem.W.nsIn K mainGlobals "_law_web" = some (some (.ref f_sWeb)))
    (l_sWeb : K.lookup f_sWeb = some ⟨oc_sWeb, od_sWeb, .func (PySem.W.fnOf "_law_web" "_law_web" (defArgs sWeb) (defBody sWeb) (defScope sWeb) .none kV_sWeb dc_sWeb pm_sWeb an_sWeb cd_sWeb ct_sWeb), sl_sWeb⟩) (c_sWeb : PySem.W.codeIn K cd_sWeb "_law_web" = true) (k_sWeb : PySem.W.keepIn K (.ref f_sWeb) = true)
    (a_sTold : PySem.W.nsIn K mainGlobals "_law_told" = some (some (.ref f_sTold)))
    (l_sTold : K.lookup f_sTold = some ⟨oc_sTold, od_sTold, .func (PySem.W.fnOf "_law_told" "_law_told" (defArgs sTold) (defBody sTold) (defScope sTold) .none kV_sTold dc_sTold pm_sTold an_sTold cd_sTold ct_sTold), sl_sTold⟩) (c_sTold : PySem.W.codeIn K cd_sTold "_law_told" = true) (k_sTold : PySem.W.keepIn K (.ref f_sTold) = true)
    (a_sLaw : PySem.W.nsIn K mainGlobals "law" = some (some (.ref f_sLaw)))
    (l_sLaw : K.lookup f_sLaw = some ⟨oc_sLaw, od_sLaw, .func (PySem.W.fnOf "law" "law" (defArgs sLaw) (defBody sLaw) (defScope sLaw) .none kV_sLaw dc_sLaw pm_sLaw an_sLaw cd_sLaw ct_sLaw), sl_sLaw⟩) (c_sLaw : PySem.W.codeIn K cd_sLaw "law" = true) (k_sLaw : PySem.W.keepIn K (.ref f_sLaw) = true)
    (aC : PySem.W.nsIn K mainGlobals "Web" = some (some (.ref C))) (jI : PySem.W.findIn K (.ref C) "__init__" = some (some (.ref f_sInit)))
    (l_sInit : K.lookup f_sInit = some ⟨oc_sInit, od_sInit, .func (PySem.W.fnOf "__init__" "Web.__init__" (defArgs sInit) (defBody sInit) (defScope sInit) .none (.ref D) dc_sInit pm_sInit an_sInit cd_sInit ct_sInit), sl_sInit⟩) (c_sInit : PySem.W.codeIn K cd_sInit "Web.__init__" = true) (k_sInit : PySem.W.keepIn K (.ref f_sInit) = true)
    (j_sPoints : PySem.W.findIn K (.ref C) "points" = some (some (.ref f_sPoints)))
    (l_sPoints : K.lookup f_sPoints = some ⟨oc_sPoints, od_sPoints, .func (PySem.W.fnOf "points" "Web.points" (defArgs sPoints) (defBody sPoints) (defScope sPoints) .none kV_sPoints dc_sPoints pm_sPoints an_sPoints cd_sPoints ct_sPoints), sl_sPoints⟩) (c_sPoints : PySem.W.codeIn K cd_sPoints "Web.points" = true) (k_sPoints : PySem.W.keepIn K (.ref f_sPoints) = true)
    (j_sArrows : PySem.W.findIn K (.ref C) "arrows" = some (some (.ref f_sArrows)))
    (l_sArrows : K.lookup f_sArrows = some ⟨oc_sArrows, od_sArrows, .func (PySem.W.fnOf "arrows" "Web.arrows" (defArgs sArrows) (defBody sArrows) (defScope sArrows) .none kV_sArrows dc_sArrows pm_sArrows an_sArrows cd_sArrows ct_sArrows), sl_sArrows⟩) (c_sArrows : PySem.W.codeIn K cd_sArrows "Web.arrows" = true) (k_sArrows : PySem.W.keepIn K (.ref f_sArrows) = true)
    (j_sMarks : PySem.W.findIn K (.ref C) "marks" = some (some (.ref f_sMarks)))
    (l_sMarks : K.lookup f_sMarks = some ⟨oc_sMarks, od_sMarks, .func (PySem.W.fnOf "marks" "Web.marks" (defArgs sMarks) (defBody sMarks) (defScope sMarks) .none kV_sMarks dc_sMarks pm_sMarks an_sMarks cd_sMarks ct_sMarks), sl_sMarks⟩) (c_sMarks : PySem.W.codeIn K cd_sMarks "Web.marks" = true) (k_sMarks : PySem.W.keepIn K (.ref f_sMarks) = true)
    (da : PySem.W.nsIn K D "arrows" = some (some (.ref ta))) (dm : PySem.W.nsIn K D "marks" = some (some (.ref tm)))
    (eta : K.lookup ta = some ⟨.type "tuple", odta, .seq #[] nta, slta⟩)
    (etm : K.lookup tm = some ⟨.type "tuple", odtm, .seq #[] ntm, sltm⟩)
    (g1 : PySem.W.nsIn K mainGlobals "MOST_POINTS" = some (some (.int 81 t1))) (g2 : PySem.W.nsIn K mainGlobals "COLOURS" = some (some (.str "abc" t2))) (g3 : PySem.W.nsIn K mainGlobals "MARKS" = some (some (.str "pqr" t3)))
    (z_len : PySem.W.nsIn K mainGlobals "len" = some none)
    (z_list : PySem.W.nsIn K mainGlobals "list" = some none)
    (z_range : PySem.W.nsIn K mainGlobals "range" = some none)
    (z_isinstance : PySem.W.nsIn K mainGlobals "isinstance" = some none)
    (z_tuple : PySem.W.nsIn K mainGlobals "tuple" = some none)
    (z_bool : PySem.W.nsIn K mainGlobals "bool" = some none)
    (z_int : PySem.W.nsIn K mainGlobals "int" = some none)
    (z_str : PySem.W.nsIn K mainGlobals "str" = some none)
    (z_all : PySem.W.nsIn K mainGlobals "all" = some none)
    (z_zip : PySem.W.nsIn K mainGlobals "zip" = some none)
    (z_enumerate : PySem.W.nsIn K mainGlobals "enumerate" = some none)
    (z_set : PySem.W.nsIn K mainGlobals "set" = some none)
    (z_sorted : PySem.W.nsIn K mainGlobals "sorted" = some none)
    (ck : (chk K C f_sInit f_sPoints f_sArrows f_sMarks).all id = true) :
    ∃ fd : FuncData, (∀ (s : Shared) (v : Value), BindsTo s fd ⟨[v], []⟩ [("_law_script", v)]) ∧ ∀ base : Heap, K.In base → base.Ns mainGlobals mg → FnOk l.prog w K mg base CX0 6 fa fd ["_law_script"] (spLaw K) := by
  have e := hfa.symm.trans (PySem.W.mg_of X G a_sLaw)
  cases e
  have F_sRA := fun_mk (st := sRA) l_sRA c_sRA k_sRA
  have F_sRM := fun_mk (st := sRM) l_sRM c_sRM k_sRM
  have F_sGat := fun_mk (st := sGat) l_sGat c_sGat k_sGat
  have F_sBox := fun_mk (st := sBox) l_sBox c_sBox k_sBox
  have F_sTake := fun_mk (st := sTake) l_sTake c_sTake k_sTake
  have F_sOne := fun_mk (st := sOne) l_sOne c_sOne k_sOne
  have F_sMixed := fun_mk (st := sMixed) l_sMixed c_sMixed k_sMixed
  have F_sSame := fun_mk (st := sSame) l_sSame c_sSame k_sSame
  have F_sUnlike := fun_mk (st := sUnlike) l_sUnlike c_sUnlike k_sUnlike
  have F_sHue := fun_mk (st := sHue) l_sHue c_sHue k_sHue
  have F_sSign := fun_mk (st := sSign) l_sSign c_sSign k_sSign
  have F_sArrow := fun_mk (st := sArrow) l_sArrow c_sArrow k_sArrow
  have F_sWeb := fun_mk (st := sWeb) l_sWeb c_sWeb k_sWeb
  have F_sTold := fun_mk (st := sTold) l_sTold c_sTold k_sTold
  have F_sLaw := fun_mk (st := sLaw) l_sLaw c_sLaw k_sLaw
  have F_sPoints := fun_mk (st := sPoints) l_sPoints c_sPoints k_sPoints
  have F_sArrows := fun_mk (st := sArrows) l_sArrows c_sArrows k_sArrows
  have F_sMarks := fun_mk (st := sMarks) l_sMarks c_sMarks k_sMarks
  have b_sRA := F_sRA.binds (ps := ["points", "arrows"]) fun _ _ _ _ _ _ us hl => match us, hl with | [_, _], _ => rfl
  have b_sRM := F_sRM.binds (ps := ["points", "marks"]) fun _ _ _ _ _ _ us hl => match us, hl with | [_, _], _ => rfl
  have b_sGat := F_sGat.binds (ps := ["rows"]) fun _ _ _ _ _ _ us hl => match us, hl with | [_], _ => rfl
  have b_sBox := F_sBox.binds (ps := ["_law_script"]) fun _ _ _ _ _ _ us hl => match us, hl with | [_], _ => rfl
  have b_sTake := F_sTake.binds (ps := ["_law_box_here", "_law_many"]) fun _ _ _ _ _ _ us hl => match us, hl with | [_, _], _ => rfl
  have b_sOne := F_sOne.binds (ps := ["_law_box_here", "_law_some"]) fun _ _ _ _ _ _ us hl => match us, hl with | [_, _], _ => rfl
  have b_sMixed := F_sMixed.binds (ps := ["_law_box_here", "_law_some"]) fun _ _ _ _ _ _ us hl => match us, hl with | [_, _], _ => rfl
  have b_sSame := F_sSame.binds (ps := ["_law_found", "_law_due"]) fun _ _ _ _ _ _ us hl => match us, hl with | [_, _], _ => rfl
  have b_sUnlike := F_sUnlike.binds (ps := ["_law_some"]) fun _ _ _ _ _ _ us hl => match us, hl with | [_], _ => rfl
  have b_sHue := F_sHue.binds (ps := ["_law_box_here"]) fun _ _ _ _ _ _ us hl => match us, hl with | [_], _ => rfl
  have b_sSign := F_sSign.binds (ps := ["_law_box_here"]) fun _ _ _ _ _ _ us hl => match us, hl with | [_], _ => rfl
  have b_sArrow := F_sArrow.binds (ps := ["_law_box_here", "_law_many"]) fun _ _ _ _ _ _ us hl => match us, hl with | [_, _], _ => rfl
  have b_sWeb := F_sWeb.binds (ps := ["_law_box_here", "_law_low", "_law_high"]) fun _ _ _ _ _ _ us hl => match us, hl with | [_, _, _], _ => rfl
  have b_sTold := F_sTold.binds (ps := ["_law_web_here"]) fun _ _ _ _ _ _ us hl => match us, hl with | [_], _ => rfl
  have b_sPoints := F_sPoints.binds (ps := ["self"]) fun _ _ _ _ _ _ us hl => match us, hl with | [_], _ => rfl
  have b_sArrows := F_sArrows.binds (ps := ["self"]) fun _ _ _ _ _ _ us hl => match us, hl with | [_], _ => rfl
  have b_sMarks := F_sMarks.binds (ps := ["self"]) fun _ _ _ _ _ _ us hl => match us, hl with | [_], _ => rfl
  have sm : SmT mg := ⟨(PySem.W.mg_none_of X G z_isinstance), (PySem.W.mg_none_of X G z_list), (PySem.W.mg_none_of X G z_tuple), (PySem.W.mg_none_of X G z_bool), (PySem.W.mg_none_of X G z_int), (PySem.W.mg_none_of X G z_str), (PySem.W.mg_none_of X G z_len), (PySem.W.mg_none_of X G z_all), (PySem.W.mg_none_of X G z_zip)⟩
  have bl : Bl mg := ⟨(PySem.W.mg_none_of X G z_range), (PySem.W.mg_none_of X G z_list), (PySem.W.mg_none_of X G z_tuple), ⟨_, PySem.W.mg_of X G g1⟩, ⟨_, PySem.W.mg_of X G g2⟩, ⟨_, PySem.W.mg_of X G g3⟩⟩
  have cl : Cls K C := ⟨(all_get ck 0 rfl), (all_get ck 1 rfl), (all_get ck 2 rfl), (of_decide_eq_true (all_get ck 3 rfl))⟩
  have wt : WT K mg C := ⟨cl, nd (all_get ck 4 rfl), nd (all_get ck 5 rfl), nd (all_get ck 6 rfl), nd (all_get ck 7 rfl), nd (all_get ck 8 rfl), (PySem.W.mg_none_of X G z_list), (PySem.W.mg_none_of X G z_range), (PySem.W.mg_none_of X G z_set), (PySem.W.mg_none_of X G z_sorted), ⟨_, PySem.W.mg_of X G g1⟩⟩
  have mk : Mk K C f_sInit := ⟨(all_get ck 9 rfl), (of_decide_eq_true (all_get ck 10 rfl)), (all_get ck 11 rfl), (all_get ck 12 rfl)⟩
  have FI : FunD K "__init__" "Web.__init__" (defArgs sInit) (defBody sInit) (defScope sInit) [] [("arrows", .ref ta), ("marks", .ref tm)] f_sInit _ := ⟨⟨oc_sInit, od_sInit, .none, .ref D, dc_sInit, pm_sInit, an_sInit, cd_sInit, ct_sInit, sl_sInit, rfl, l_sInit, c_sInit, .inl ⟨rfl, rfl⟩, .inr ⟨D, rfl, fun q hq => by
    simp only [List.mem_cons, List.not_mem_nil, or_false] at hq
    rcases hq with rfl | rfl
    · exact ⟨_, da, rfl⟩
    · exact ⟨_, dm, rfl⟩⟩⟩, k_sInit⟩
  have ea : ∀ H, SqT K H ta [] := fun H => .inr ⟨_, _, _, eta, rfl, rfl, Nat.zero_le _, .nil⟩
  have em : ∀ H, SqT K H tm [] := fun H => .inr ⟨_, _, _, etm, rfl, rfl, Nat.zero_le _, .nil⟩
  refine ⟨PySem.W.fnOf "law" "law" (defArgs sLaw) (defBody sLaw) (defScope sLaw) .none kV_sLaw dc_sLaw pm_sLaw an_sLaw cd_sLaw ct_sLaw, fun s v => .of_eq rfl, fun base _ _ => ?_⟩
  have o_sRA : Df l.prog w K mg base 1 "refuse_bad_arrows" ["points", "arrows"] (spRA K) f_sRA _ := ⟨ok_ra F_sRA (PySem.W.mg_none_of X G z_list) (PySem.W.mg_none_of X G z_enumerate) (PySem.W.mg_of X G g2), PySem.W.mg_of X G a_sRA, k_sRA, b_sRA⟩
  have o_sRM : Df l.prog w K mg base 1 "refuse_bad_marks" ["points", "marks"] (spRM K) f_sRM _ := ⟨ok_rm F_sRM (PySem.W.mg_none_of X G z_list) (PySem.W.mg_none_of X G z_enumerate) (PySem.W.mg_of X G g3), PySem.W.mg_of X G a_sRM, k_sRM, b_sRM⟩
  have o_sGat : Df l.prog w K mg base 1 "gathered" ["rows"] (spGat K) f_sGat _ := ⟨ok_gat F_sGat, PySem.W.mg_of X G a_sGat, k_sGat, b_sGat⟩
  have o_sBox : Df l.prog w K mg base 1 "_law_box" ["_law_script"] (spBox K) f_sBox _ := ⟨ok_box F_sBox (PySem.W.mg_none_of X G z_len) (PySem.W.mg_none_of X G z_list), PySem.W.mg_of X G a_sBox, k_sBox, b_sBox⟩
  have o_sTake : Df l.prog w K mg base 1 "_law_take" ["_law_box_here", "_law_many"] spTake f_sTake _ := ⟨ok_take F_sTake (PySem.W.mg_none_of X G z_len), PySem.W.mg_of X G a_sTake, k_sTake, b_sTake⟩
  have o_sOne : Df l.prog w K mg base 2 "_law_one" ["_law_box_here", "_law_some"] (spOne K) f_sOne _ := ⟨ok_one F_sOne (PySem.W.mg_none_of X G z_len) o_sTake, PySem.W.mg_of X G a_sOne, k_sOne, b_sOne⟩
  have o_sMixed : Df l.prog w K mg base 2 "_law_mixed" ["_law_box_here", "_law_some"] spMix f_sMixed _ := ⟨ok_mix F_sMixed (PySem.W.mg_none_of X G z_len) o_sTake, PySem.W.mg_of X G a_sMixed, k_sMixed, b_sMixed⟩
  have o_sSame : Df l.prog w K mg base 4 "_law_same" ["_law_found", "_law_due"] (spSame K 3) f_sSame _ := ⟨ok_same F_sSame (PySem.W.mg_of X G a_sSame) b_sSame sm 3, PySem.W.mg_of X G a_sSame, k_sSame, b_sSame⟩
  have o_sUnlike : Df l.prog w K mg base 1 "_law_unlike" ["_law_some"] (spUnl K) f_sUnlike _ := ⟨ok_unl F_sUnlike (PySem.W.mg_none_of X G z_sorted), PySem.W.mg_of X G a_sUnlike, k_sUnlike, b_sUnlike⟩
  have o_sHue : Df l.prog w K mg base 3 "_law_hue" ["_law_box_here"] spHue f_sHue _ := ⟨ok_hue F_sHue o_sOne, PySem.W.mg_of X G a_sHue, k_sHue, b_sHue⟩
  have o_sSign : Df l.prog w K mg base 3 "_law_sign" ["_law_box_here"] spSign f_sSign _ := ⟨ok_sign F_sSign o_sOne, PySem.W.mg_of X G a_sSign, k_sSign, b_sSign⟩
  have o_sArrow : Df l.prog w K mg base 4 "_law_arrow" ["_law_box_here", "_law_many"] spArrow f_sArrow _ := ⟨ok_arrow F_sArrow o_sHue o_sTake, PySem.W.mg_of X G a_sArrow, k_sArrow, b_sArrow⟩
  have o_sWeb : Df l.prog w K mg base 5 "_law_web" ["_law_box_here", "_law_low", "_law_high"] (spWeb K) f_sWeb _ := ⟨ok_web F_sWeb (PySem.W.mg_none_of X G z_range) o_sTake o_sOne o_sSign o_sArrow o_sUnlike, PySem.W.mg_of X G a_sWeb, k_sWeb, b_sWeb⟩
  have m_sPoints : Mf l.prog w K mg base 1 C "points" (spPts C) f_sPoints _ := ⟨ok_pts F_sPoints wt (PySem.W.mg_none_of X G z_len), ⟨(of_decide_eq_true (all_get ck 13 rfl)), (all_get ck 14 rfl), k_sPoints⟩, b_sPoints⟩
  have m_sArrows : Mf l.prog w K mg base 1 C "arrows" (spArr C) f_sArrows _ := ⟨ok_arr F_sArrows wt, ⟨(of_decide_eq_true (all_get ck 15 rfl)), (all_get ck 16 rfl), k_sArrows⟩, b_sArrows⟩
  have m_sMarks : Mf l.prog w K mg base 1 C "marks" (spMrk C) f_sMarks _ := ⟨ok_mrk F_sMarks wt, ⟨(of_decide_eq_true (all_get ck 17 rfl)), (all_get ck 18 rfl), k_sMarks⟩, b_sMarks⟩
  have o_sTold : Df l.prog w K mg base 2 "_law_told" ["_law_web_here"] (spTold C) f_sTold _ := ⟨ok_told F_sTold cl m_sPoints m_sArrows m_sMarks, PySem.W.mg_of X G a_sTold, k_sTold, b_sTold⟩
  have oI : FnOk l.prog w K mg base CX0 2 f_sInit _ psI (spInit K C) := ok_init FI wt o_sRA o_sRM o_sGat
  exact ok_law F_sLaw bl cl (PySem.W.mg_of X G aC) mk FI oI ea em o_sBox o_sTake o_sWeb o_sMixed o_sSame o_sTold m_sArrows m_sMarks
end Wb
open PySem PySem.W PyProof.Rows
set_option maxRecDepth 100000 in
set_option maxHeartbeats 0 in
theorem PySem.Challenge.cw_wardweb_k01_webs_made_holds : PySem.Challenge.rw_wardweb_k01_webs_made.Holds := by
  w_on; o_law; k_head; (case hw => w_witness2)
  k_fill
  refine L2.walk_of (l := PySem.Challenge.rw_wardweb_k01_webs_made) (n := 63) (k := 6) (x := "_law_script") (CX := fun _ => L2.CX0) (sp := fun w => Wb.spLaw _) rfl (by decide) rfl ⟨rfl, by decide, by decide⟩ (fun w h Y => PySem.W.kIn_of Y) ?F (fun _ _ a ns hl _ hS => ⟨a, ns, rfl, hS, hl, fun _ => rfl⟩) (fun _ _ _ _ _ h => h)
  case F =>
    intro w mg fa h KX G hmg
    refine' Wb.all_mk KX G hmg ?a_sRA ?l_sRA ?c_sRA ?k_sRA ?a_sRM ?l_sRM ?c_sRM ?k_sRM ?a_sGat ?l_sGat ?c_sGat ?k_sGat ?a_sBox ?l_sBox ?c_sBox ?k_sBox ?a_sTake ?l_sTake ?c_sTake ?k_sTake ?a_sOne ?l_sOne ?c_sOne ?k_sOne ?a_sMixed ?l_sMixed ?c_sMixed ?k_sMixed ?a_sSame ?l_sSame ?c_sSame ?k_sSame ?a_sUnlike ?l_sUnlike ?c_sUnlike ?k_sUnlike ?a_sHue ?l_sHue ?c_sHue ?k_sHue ?a_sSign ?l_sSign ?c_sSign ?k_sSign ?a_sArrow ?l_sArrow ?c_sArrow ?k_sArrow ?a_sWeb ?l_sWeb ?c_sWeb ?k_sWeb ?a_sTold ?l_sTold ?c_sTold ?k_sTold ?a_sLaw ?l_sLaw ?c_sLaw ?k_sLaw ?aC ?jI ?l_sInit ?c_sInit ?k_sInit ?j_sPoints ?l_sPoints ?c_sPoints ?k_sPoints ?j_sArrows ?l_sArrows ?c_sArrows ?k_sArrows ?j_sMarks ?l_sMarks ?c_sMarks ?k_sMarks ?da ?dm ?eta ?etm ?g1 ?g2 ?g3 ?z_len ?z_list ?z_range ?z_isinstance ?z_tuple ?z_bool ?z_int ?z_str ?z_all ?z_zip ?z_enumerate ?z_set ?z_sorted ?ck
    (case a_sRA => k_is)
    (case l_sRA => k_is)
    (case c_sRA => k_is)
    (case k_sRA => k_is)
    (case a_sRM => k_is)
    (case l_sRM => k_is)
    (case c_sRM => k_is)
    (case k_sRM => k_is)
    (case a_sGat => k_is)
    (case l_sGat => k_is)
    (case c_sGat => k_is)
    (case k_sGat => k_is)
    (case a_sBox => k_is)
    (case l_sBox => k_is)
    (case c_sBox => k_is)
    (case k_sBox => k_is)
    (case a_sTake => k_is)
    (case l_sTake => k_is)
    (case c_sTake => k_is)
    (case k_sTake => k_is)
    (case a_sOne => k_is)
    (case l_sOne => k_is)
    (case c_sOne => k_is)
    (case k_sOne => k_is)
    (case a_sMixed => k_is)
    (case l_sMixed => k_is)
    (case c_sMixed => k_is)
    (case k_sMixed => k_is)
    (case a_sSame => k_is)
    (case l_sSame => k_is)
    (case c_sSame => k_is)
    (case k_sSame => k_is)
    (case a_sUnlike => k_is)
    (case l_sUnlike => k_is)
    (case c_sUnlike => k_is)
    (case k_sUnlike => k_is)
    (case a_sHue => k_is)
    (case l_sHue => k_is)
    (case c_sHue => k_is)
    (case k_sHue => k_is)
    (case a_sSign => k_is)
    (case l_sSign => k_is)
    (case c_sSign => k_is)
    (case k_sSign => k_is)
    (case a_sArrow => k_is)
    (case l_sArrow => k_is)
    (case c_sArrow => k_is)
    (case k_sArrow => k_is)
    (case a_sWeb => k_is)
    (case l_sWeb => k_is)
    (case c_sWeb => k_is)
    (case k_sWeb => k_is)
    (case a_sTold => k_is)
    (case l_sTold => k_is)
    (case c_sTold => k_is)
    (case k_sTold => k_is)
    (case a_sLaw => k_is)
    (case l_sLaw => k_is)
    (case c_sLaw => k_is)
    (case k_sLaw => k_is)
    (case aC => k_is)
    (case jI => k_is)
    (case l_sInit => k_is)
    (case c_sInit => k_is)
    (case k_sInit => k_is)
    (case j_sPoints => k_is)
    (case l_sPoints => k_is)
    (case c_sPoints => k_is)
    (case k_sPoints => k_is)
    (case j_sArrows => k_is)
    (case l_sArrows => k_is)
    (case c_sArrows => k_is)
    (case k_sArrows => k_is)
    (case j_sMarks => k_is)
    (case l_sMarks => k_is)
    (case c_sMarks => k_is)
    (case k_sMarks => k_is)
    (case da => k_is)
    (case dm => k_is)
    (case eta => k_is)
    (case etm => k_is)
    (case g1 => k_is)
    (case g2 => k_is)
    (case g3 => k_is)
    (case z_len => k_is)
    (case z_list => k_is)
    (case z_range => k_is)
    (case z_isinstance => k_is)
    (case z_tuple => k_is)
    (case z_bool => k_is)
    (case z_int => k_is)
    (case z_str => k_is)
    (case z_all => k_is)
    (case z_zip => k_is)
    (case z_enumerate => k_is)
    (case z_set => k_is)
    (case z_sorted => k_is)
    (case ck => kernel_rfl)
